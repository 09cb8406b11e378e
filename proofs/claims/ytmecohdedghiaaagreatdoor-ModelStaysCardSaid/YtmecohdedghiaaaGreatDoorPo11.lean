/- Sum, difference and product of two whole numbers: what the program and the reference answer. -/
import Derived.Test.YtmecohdedghiaaaGreatDoorPo00
import Derived.Test.YtmecohdedghiaaaGreatDoorPo02
import Derived.Laws.Rows
import Derived.Deep.QuietTactic
import Derived.BigQuiet
import Derived.Test.YtmecohdedghiaaaGreatDoorPo10
import Derived.Test.YtmecohdedghiaaaGreatDoorPo04
import Derived.Test.YtmecohdedghiaaaGreatDoorChecked
import Derived.WalkKit
import Derived.WalkLawsBesides
import Derived.WalkSpells
import Derived.Outline
import Derived.KernelRfl
import Derived.Lib.Hide
import Derived.Test.YtmecohdedghiaaaGreatDoorPo01
set_option maxRecDepth 100000
set_option maxHeartbeats 8000000
open Go.Proofs.Tryz
namespace Go.Proofs.YtmecohdedghiaaaGreatDoor.Two
open Go.RowKit
def W2 (x:Int):Value:=.agg #[.int .u64 (x%18446744073709551616),.int .u64 (x/18446744073709551616%18446744073709551616)]
theorem nS {a b c d:Int} (h:a=c) (k:b=d):Ending.returned (.agg #[.int .u64 a,.int .u64 b])=.returned (.agg #[.int .u64 c,.int .u64 d]):=by rw[h,k]
theorem nX:(Tryz.prog.info? 246).map (·.size)=some 2:=by kernel_rfl
theorem fO (n:Int) (hn:ae n) (w:World):Calls prog 222 #[.int .i64 n] w fun e w'=>e=.returned (W2 n)∧Below w.heap.size w w':=by
 have HN:=aH hn;clear hn;go_enter func222,ntmps222;go_wp2;refine bP (results_cell_row rfl _ _ w.heap.size 246 _ (0,0) _ rfl (heap_alloc_new _ _) underlying246 rfl nX) rfl ?_;refine⟨nS ?_ ?_,(bR _ _).alloc (nR _) _⟩
 ·rw[IntKind.wrap_u64]
 ·have:=HN.out;unfold ae at this;rw[IntKind.wrap_u64];omega
theorem Bs (x y:Int):((x%18446744073709551616+y%18446744073709551616)%18446744073709551616=(x+y)%18446744073709551616)∧
  ((x%18446744073709551616+y%18446744073709551616)%18446744073709551616<x%18446744073709551616→
   ((x/18446744073709551616%18446744073709551616+y/18446744073709551616%18446744073709551616)%18446744073709551616+1)%18446744073709551616=(x+y)/18446744073709551616%18446744073709551616)∧
  (¬(x%18446744073709551616+y%18446744073709551616)%18446744073709551616<x%18446744073709551616→
   (x/18446744073709551616%18446744073709551616+y/18446744073709551616%18446744073709551616)%18446744073709551616=(x+y)/18446744073709551616%18446744073709551616):=by
 refine⟨?_,?_,?_⟩<;>omega
theorem size_alloc (w:World) (o:Obj):(w.alloc o).heap.size=w.heap.size+1:=by simp
theorem dm (w:World) (b:Nat) (t u x y:Value) (h:w.heap[b]? =some (Obj.cells #[t,u] 246)):((w.setCell ⟨b,0,none⟩ x).setCell ⟨b,1,none⟩ y).heap[b]? =some (Obj.cells #[x,y] 246):=by
 rw[heap_setCell_same _ b 1 _ _ _ (heap_setCell_same w b 0 _ _ _ h)];rfl
theorem uq (x y:Int) (w:World):Calls prog 221 #[W2 x,W2 y] w fun e w'=>e=.returned (W2 (x+y))∧Below w.heap.size w w':=by
 have hc:=Bs x y;have HC:=aH hc;clear hc;unfold W2;generalize hx0:x%18446744073709551616=x0 at *;generalize hx1:x/18446744073709551616%18446744073709551616=x1 at *;generalize hy0:y%18446744073709551616=y0 at *;generalize hy1:y/18446744073709551616%18446744073709551616=y1 at *;have Up:=aH hx0;have UB:=aH hy0;clear hx0 hx1 hy0 hy1;go_enter func221,ntmps221;go_wp2;obtain⟨B,hB⟩:∃B,B=w.heap.size:=⟨_,rfl⟩;obtain⟨w3,hw⟩:∃w3,w3=(((w.alloc (Obj.cells #[.int .u64 x0,.int .u64 x1] 246)).alloc (Obj.cells #[.int .u64 y0,.int .u64 y1] 246)).alloc (Obj.cells #[.int .u64 0,.int .u64 0] 246)):=⟨_,rfl⟩;rw[←hw,←hB];have r0:w3.heap[B]? =some (Obj.cells #[.int .u64 x0,.int .u64 x1] 246):=by
  rw[hw,hB,Below.heap_alloc _ _ _ (by simp;omega),Below.heap_alloc _ _ _ (by simp),heap_alloc_new]
 have r1:w3.heap[B+1]? =some (Obj.cells #[.int .u64 y0,.int .u64 y1] 246):=by
  rw[hw,hB,Below.heap_alloc _ _ _ (by simp),←size_alloc w (Obj.cells #[.int .u64 x0,.int .u64 x1] 246)];exact heap_alloc_new (w.alloc _) _
 have r2:w3.heap[B+1+1]? =some (Obj.cells #[.int .u64 0,.int .u64 0] 246):=by
  rw[hw,hB,←size_alloc w (Obj.cells #[.int .u64 x0,.int .u64 x1] 246),←size_alloc _ (Obj.cells #[.int .u64 y0,.int .u64 y1] 246)];exact heap_alloc_new ((w.alloc _).alloc _) _
 have Dy:Below B w w3:=by
  rw[hw,hB];exact(((bR _ _).alloc (nR _) _).alloc (by simp) _).alloc (by simp;omega) _
 have c00:w3.cell? ⟨B,0,none⟩=some (.int .u64 x0):=cell_of_row w3 B 0 _ _ _ r0;have c01:w3.cell? ⟨B,1,none⟩=some (.int .u64 x1):=cell_of_row w3 B 1 _ _ _ r0;have c10:w3.cell? ⟨B+1,0,none⟩=some (.int .u64 y0):=cell_of_row w3 (B+1) 0 _ _ _ r1;have c11:w3.cell? ⟨B+1,1,none⟩=some (.int .u64 y1):=cell_of_row w3 (B+1) 1 _ _ _ r1;have c20:w3.cell? ⟨B+1+1,0,none⟩=some (.int .u64 0):=cell_of_row w3 (B+1+1) 0 _ _ _ r2;have c21:w3.cell? ⟨B+1+1,1,none⟩=some (.int .u64 0):=cell_of_row w3 (B+1+1) 1 _ _ _ r2;have f2:∀j,w3.frozen? ⟨B+1+1,j,none⟩=false:=fun j=>frozen_of_row w3 (B+1+1) j _ _ r2;have f20:=f2 0;have f21:=f2 1;have R2:=aH r2;have OG:=aH Dy;have HB:=aH hB;clear hw r0 r1 r2 Dy f2 hB;go_quiet (fail);go_wp2
 ·refine bP (results_cell_row rfl _ _ (B+1+1) 246 _ (0,0) _ rfl (dm _ _ _ _ _ _ R2.out) underlying246 rfl nX) rfl ?_;have e:=HC.out;rw[←IntKind.wrap_u64]at e;refine⟨nS e.1 ?_,?_⟩
  ·rw[←e.2.1 ‹_›,IntKind.wrap_u64,IntKind.wrap_u64]
  ·rw[←HB.out];exact Below.setCell (Below.setCell (aa OG.out _) (by simp;omega) _) (by simp;omega) _
 ·refine bP (results_cell_row rfl _ _ (B+1+1) 246 _ (0,0) _ rfl (dm _ _ _ _ _ _ R2.out) underlying246 rfl nX) rfl ?_;have e:=HC.out;rw[←IntKind.wrap_u64]at e;refine⟨nS e.1 ?_,?_⟩
  ·rw[←e.2.2 ‹_›,IntKind.wrap_u64]
  ·rw[←HB.out];exact Below.setCell (Below.setCell (aa OG.out _) (by simp;omega) _) (by simp;omega) _
theorem either_any (v u:Value) (xs ys:List Int) (w:World) (h:IsL w w.heap.size v xs) (hy:IsL w w.heap.size u ys) (hl:xs.length+ys.length≤1000) (hix:Inc xs) (hiy:Inc ys):
  Calls prog 81 #[v,u] w fun e w'=>∃v,e=.returned v∧IsL w' w'.heap.size v (mk (xs++ys))∧Below w.heap.size w w':=by
 obtain⟨i0,hi,D9,DZ,hz2⟩:=info_parts int_info;obtain⟨⟨A,cap,rfl,hcap,hA⟩,De,Db⟩:=h;have HY:=aH hy;obtain⟨⟨A2,cap2,rfl,hcap2,EX⟩,hfit2,hlen2⟩:=hy;have HA:=aH hA;have HF:=aH De;have DC:=aH EX;have GE:=aH hfit2;have IV:=aH hix;have JO:=aH hiy;clear hA De EX hfit2 hix hiy;go_enter func81,ntmps81;go_wp2_with (at_make;refine wpList_make_own _ rfl _ _ 27 rfl w.heap.size 3 i0 (.int .i64 0) 1 underlying27 hi D9 DZ _ _ _ (xs.length+ys.length) rfl rfl (by omega) ?bytes ?maxLen ?base ?_)
 case bytes=>rw[hz2];omega
 case maxLen=>unfold maxLen;omega
 case base=>exact nR _
 intro w0 hown0 hg0;have Rl:=aH (show Own w0 w.heap.size (.slice (some ⟨w.heap.size,0,none⟩) 0 (xs.length+ys.length)) []from⟨hown0,fun x hx=>by simp at hx⟩);have CG:=aH (show Below w.heap.size w w0 from(bR _ w).grown hg0 (nR _) (fun k hk=>by cases hk));clear hown0 hg0;go_wp2
 go_loopw [5,6,17] (fun t q i wr=>∃(k at':Nat) (all:List Int),k≤xs.length∧at'≤ys.length∧i=.int .i64 (k:Int)∧q=.int .i64 (at':Int)∧Own wr w.heap.size t all∧Below w.heap.size w wr∧OInv xs ys k at' all) (fun _ _ i _=>xs.length-(intOf i).toNat)
 case atStart=>exact⟨0,0,[],Nat.zero_le _,Nat.zero_le _,rfl,rfl,Rl.out,CG.out,OInv.start _ _⟩
 case round=>
  clear Rl CG;obtain⟨k,at',all,hk,hat,rfl,rfl,CF,Dy,hinv⟩:=hrel;have HO:=aH CF;have HL:=aH Dy;have HI:=aH hinv;by_cases CI:k<xs.length
  ·obtain⟨b,off,rfl,hbB,CD⟩:=HA.out (by omega);have hx:wr.cell? ⟨b,off+k,none⟩=some (.int .i64 (xs.getD k 0)):=(Dy.cell (p:=⟨b,off+k,none⟩) hbB).trans (CD k CI);have I4:=aH (dq HF.out k);have Kl:=aH (hinv.enter CI);have Ga:=aH (fun(t:Nat) (al:List Int) (hh:IInv xs ys k (xs.getD k 0) t al) (hx:t<ys.length→xs.getD k 0<ys.getD t 0)=>hh.leave IV.out JO.out CI hx);clear CD CF Dy hinv HI;generalize xs.getD k 0=n at *;obtain⟨wo,hwo⟩:∃wo,wo=wr:=⟨_,rfl⟩;subst hwo;go_wp2
   go_loopw [5,6] (fun t q wr=>∃(at':Nat) (all:List Int),at'≤ys.length∧q=.int .i64 (at':Int)∧Own wr w.heap.size t all∧Below w.heap.size w wr∧IInv xs ys k n at' all) (fun _ q _=>ys.length-(intOf q).toNat)
   case atStart=>exact⟨at',all,hat,rfl,HO.out,HL.out,Kl.out⟩
   case round=>
    clear HO HL Kl hx;obtain⟨at',all,hat,rfl,CF,Dy,hinv⟩:=hrel;have HO:=aH CF;have HL:=aH Dy;have HI:=aH hinv;have ED:=aH hinv.len;by_cases ht:at'<ys.length
    ·obtain⟨b2,off2,rfl,hbB2,hcell2⟩:=DC.out (by omega);have DY:wr.cell? ⟨b2,off2+at',none⟩=some (.int .i64 (ys.getD at' 0)):=(Dy.cell (p:=⟨b2,off2+at',none⟩) hbB2).trans (hcell2 at' ht);have Sy:=aH (dq GE.out at');have Gb:=aH (fun h=>hinv.less JO.out ht h);have It:=aH (fun h=>hinv.same ht h);have Kz:=aH (fun h=>Ga.out at' all hinv (fun _=>h));clear hcell2 CF Dy hinv HI Ga;generalize ys.getD at' 0=y at *;by_cases h1:y<n
     ·have NP:y≤n:=(by omega);have Pn:=aH (Gb.out h1);go_wp2_with (at_builtin;refine wpList_app _ rfl _ _ rfl w.heap.size (wr.heap.size+1) _ _ all [y] rfl rfl (HO.out.alloc _) (IsL.lit wr y Sy.out) ?c1 ?c2 ?_)
      case c1=>have:=ED.out;simp;omega
      case c2=>have:=HL.out.size;simp;omega
      intro v1 w1 CF hgrow _;have CE:=Own.grow' (HO.out.alloc (.cells #[.int .i64 y] 3)) (HL.out.alloc HL.out.size _) (by have:=HL.out.size;simp;omega) hgrow;have H1:=aH CF;have H2:=aH CE;clear CF hgrow CE;go_wp2
      go_roundw
      case rel=>exact⟨at'+1,all++[y],by omega,ai (by omega),H1.out,H2.out,Pn.out⟩
      case measure=>simp[intOf];omega
     ·by_cases h2:y=n
      ·have Lt:y≤n:=(by omega);have Ou:=aH (It.out h2);have h3:¬y<n:=h1;clear h2;go_wp2
       go_roundw
       case rel=>exact⟨at'+1,all,by omega,ai (by omega),HO.out,HL.out,Ou.out⟩
       case measure=>simp[intOf];omega
      ·have h3:n<y:=(by omega);have KA:=aH (Kz.out h3);clear h2 h1;go_wp2_with (at_builtin;refine wpList_app _ rfl _ _ rfl w.heap.size (wr.heap.size+1) _ _ all [n] rfl rfl (HO.out.alloc _) (IsL.lit wr n I4.out) ?c1 ?c2 ?_)
       case c1=>have:=ED.out;simp;omega
       case c2=>have:=HL.out.size;simp;omega
       intro v1 w1 CF hgrow _;have CE:=Own.grow' (HO.out.alloc (.cells #[.int .i64 n] 3)) (HL.out.alloc HL.out.size _) (by have:=HL.out.size;simp;omega) hgrow;have H1:=aH CF;have H2:=aH CE;clear CF hgrow CE;go_wp2
       go_roundw
       case rel=>exact⟨k+1,at',all++[n],by omega,by omega,ai (by omega),rfl,H1.out,H2.out,KA.out⟩
       case measure=>simp[intOf];omega
    ·have Kz:=aH (Ga.out at' all hinv (fun h=>absurd h ht));have KA:=aH Kz.out;clear CF Dy hinv HI Ga;go_wp2_with (at_builtin;refine wpList_app _ rfl _ _ rfl w.heap.size (wr.heap.size+1) _ _ all [n] rfl rfl (HO.out.alloc _) (IsL.lit wr n I4.out) ?c1 ?c2 ?_)
     case c1=>have:=ED.out;simp;omega
     case c2=>have:=HL.out.size;simp;omega
     intro v1 w1 CF hgrow _;have CE:=Own.grow' (HO.out.alloc (.cells #[.int .i64 n] 3)) (HL.out.alloc HL.out.size _) (by have:=HL.out.size;simp;omega) hgrow;have H1:=aH CF;have H2:=aH CE;clear CF hgrow CE;go_wp2
     go_roundw
     case rel=>exact⟨k+1,at',all++[n],by omega,by omega,ai (by omega),rfl,H1.out,H2.out,KA.out⟩
     case measure=>simp[intOf];omega
  ·obtain rfl:k=xs.length:=(by omega);have JF:=aH (hinv.done JO.out);have ED:=aH hinv.len;clear CF Dy hinv HI;by_cases ht:at'<ys.length
   ·obtain⟨b2,off2,rfl,hbB2,hcell2⟩:=DC.out (by omega);have HD:=aH (IsL.dropIf (cap:=cap2) hbB2 hcell2 GE.out at' (by omega) hcap2 hlen2);have I8:=aH (IsL.dropLit (cap:=cap2) hbB2 hcell2 GE.out at' (by omega) hcap2 hlen2).2;have i1:(0:Int)≤(at':Int):=(by omega);have i2:(at':Int)≤(ys.length:Int):=(by omega);clear hcell2;go_wp2_with (first
     |(at_builtin;refine wpList_app _ rfl _ _ rfl w.heap.size w.heap.size _ _ all (ys.drop at') rfl rfl HO.out (HD.out.below HL.out) ?c1 ?c2 ?_)
     |(at_builtin;refine wpList_app _ rfl _ _ rfl w.heap.size w.heap.size _ _ all (ys.drop at') rfl rfl HO.out (I8.out.below HL.out) ?c1 ?c2 ?_))
    case c1=>have:=ED.out;simp;omega
    case c2=>exact HL.out.size
    intro v1 w1 CF hgrow _;have CE:=Own.grow' HO.out HL.out HL.out.size hgrow;have hr:all++ys.drop at'=mk (xs++ys):=JF.out;rw[hr]at CF;have H1:=aH (CF.isL (by have:=mk_len_le (xs++ys);rw[List.length_append]at this;omega));have H2:=aH CE;clear CF hgrow CE;go_wp2
    go_ret
    exact⟨_,rfl,H1.out,H2.out⟩
   ·obtain rfl:at'=ys.length:=(by omega);rw[List.drop_length]at JF;by_cases hy0:0<ys.length
    ·obtain⟨b2,off2,rfl,hbB2,hcell2⟩:=DC.out hy0;clear hcell2;by_cases EA:cap2=ys.length
     ·go_wp2_with (at_builtin;refine wpList_app _ rfl _ _ rfl w.heap.size w.heap.size _ _ all [] rfl rfl HO.out (IsL.nil _ _ _ _) ?c1 ?c2 ?_)
      case c1=>have:=ED.out;simp;omega
      case c2=>exact HL.out.size
      intro v1 w1 CF hgrow _;have CE:=Own.grow' HO.out HL.out HL.out.size hgrow;have hr:all=mk (xs++ys):=(by have:=JF.out;simpa using this);rw[hr]at CF;have H1:=aH (CF.isL (by have:=mk_len_le (xs++ys);rw[List.length_append]at this;omega));have H2:=aH CE;clear CF hgrow CE;go_wp2
      go_ret
      exact⟨_,rfl,H1.out,H2.out⟩
     ·go_wp2_with (at_builtin;refine wpList_app _ rfl _ _ rfl w.heap.size w.heap.size _ _ all [] rfl rfl HO.out (IsL.nil _ _ _ _) ?c1 ?c2 ?_)
      case c1=>have:=ED.out;simp;omega
      case c2=>exact HL.out.size
      intro v1 w1 CF hgrow _;have CE:=Own.grow' HO.out HL.out HL.out.size hgrow;have hr:all=mk (xs++ys):=(by have:=JF.out;simpa using this);rw[hr]at CF;have H1:=aH (CF.isL (by have:=mk_len_le (xs++ys);rw[List.length_append]at this;omega));have H2:=aH CE;clear CF hgrow CE;go_wp2
      go_ret
      exact⟨_,rfl,H1.out,H2.out⟩
    ·have hz:ys.length=0:=(by omega);rw[hz];go_wp2_with (at_builtin;refine wpList_app _ rfl _ _ rfl w.heap.size w.heap.size _ _ all [] rfl rfl HO.out (IsL.nil _ _ _ _) ?c1 ?c2 ?_)
     case c1=>have:=ED.out;simp;omega
     case c2=>exact HL.out.size
     intro v1 w1 CF hgrow _;have CE:=Own.grow' HO.out HL.out HL.out.size hgrow;have hr:all=mk (xs++ys):=(by have:=JF.out;simpa using this);rw[hr]at CF;have H1:=aH (CF.isL (by have:=mk_len_le (xs++ys);rw[List.length_append]at this;omega));have H2:=aH CE;clear CF hgrow CE;go_wp2
     go_ret
     exact⟨_,rfl,H1.out,H2.out⟩
end Go.Proofs.YtmecohdedghiaaaGreatDoor.Two
namespace Go.Proofs.YtmecohdedghiaaaGreatDoor
open Go.RowKit
noncomputable def jH (d:Dk) (id:Int):Bool:=decide (0≤id∧id<(eY d).length)
noncomputable def dg (d:Dk) (id:Int):Int×Int:=(eY d).getD id.toNat (0,0)
noncomputable def cS (d:Dk) (ids:List Int):Int:=if aA d=0 then(if ids.all (jH d)=true then 0 else 3)else aA d
noncomputable def dr (d:Dk) (ids:List Int):List (Int×Int):=if cS d ids=0 then ids.map (dg d)else []
theorem cm (d:Dk) (h:aA d=0):aJ d=0:=by
 unfold aA at h;by_cases e:aJ d=0
 ·exact e
 ·rw[if_neg e]at h;exact h
theorem ta (d:Dk) (h:aA d=0):eY d=cq (bV d):=by unfold eY;rw[if_pos h]
theorem yA (d:Dk) (h:aA d=0):∀t∈bV d,t.2.2=0:=by
 have hd:=cm d h;have:bp (bV d)=0:=by
  rw[pF d (aU d hd)];unfold aA at h;rw[if_pos hd]at h;exact h
 exact Bi _ this
theorem mh (d:Dk) (h:aA d=0):(eY d).length=(ak d).length:=by
 rw[ta d h,fL,fh];unfold ak;rw[if_pos (cm d h)]
theorem lB (d:Dk) (h:aA d=0) (id:Int):pQ d id=if jH d id=true then(((bV d).getD id.toNat (0,0,0)).1,((bV d).getD id.toNat (0,0,0)).2.1,0)else(0,0,3):=by
 have hd:=cm d h;have hl:=mh d h;unfold pQ;rw[oK d id hd];unfold eK jH;rw[hl];by_cases hr:id<0∨((ak d).length:Int)≤id
 ·rw[if_pos hr,if_neg (by decide),if_neg (by simp;omega)]
 ·rw[if_neg hr,if_pos rfl,if_pos (by simp;omega)];have hk:id.toNat<(ak d).length:=by omega
  have e:=mZ d hd id.toNat hk;dsimp only;rw[←e];have hm:(bV d).getD id.toNat (0,0,0)∈bV d:=af _ _ _ (by rw[fh];unfold ak at hk;rw[if_pos hd]at hk;exact hk);have h0:=yA d h _ hm;generalize (bV d).getD id.toNat (0,0,0)=t at *;obtain⟨t1,t2,t3⟩:=t;dsimp only at h0;subst h0;rfl
theorem pD (d:Dk) (h:aA d=0) (id:Int) (hr:jH d id=true):dg d id=((((bV d).getD id.toNat (0,0,0)).1:Int),(((bV d).getD id.toNat (0,0,0)).2.1:Int)):=by
 unfold dg;unfold jH at hr;have hr:=of_decide_eq_true hr;rw[ta d h]at hr⊢;rw[fL]at hr;rw[List.getD_eq_getElem?_getD,List.getD_eq_getElem?_getD];unfold cq;rw[List.getElem?_map,List.getElem?_eq_getElem (show id.toNat<(bV d).length by omega)];rfl
theorem ms (d:Dk) {w:World} (hd:d.In w w.heap.size) (h:aA d=0) (id:Int) (hr:jH d id=true):0≤(dg d id).1∧(dg d id).1≤(dg d id).2∧(dg d id).2≤23:=by
 have hz:=cm d h;rw[pD d h id hr];have hr:=of_decide_eq_true hr;rw[mh d h]at hr;have hk:id.toNat<(ak d).length:=by omega
 have hm:=af (ak d) id.toNat ⟨0,0,0,0⟩ hk;have e:=mZ d hz id.toNat hk;have Q1:(bV d).getD id.toNat (0,0,0)∈bV d:=af _ _ _ (by rw[fh];unfold ak at hk;rw[if_pos hz]at hk;exact hk);have h0:=yA d h _ Q1;rw[e]at h0⊢;have:=mL d hd _ hm h0;dsimp only;omega
theorem vV (d:Dk) (id:Int) (DU:ae id) (h:aA d=0) (hr:jH d id=true) (w:World) (hd:d.In w w.heap.size):Calls prog 206 #[d.v,.int .i64 id] w fun e w'=>e=.returned (.tuple #[.agg #[.int .i64 (dg d id).1,.int .i64 (dg d id).2],.int .i64 0])∧Below w.heap.size w w':=by
 have:=mK d id DU w hd;rw[lB d h id,if_pos hr]at this;rw[pD d h id hr];exact this
theorem se (d:Dk) (id:Int) (DU:ae id) (h:aA d=0) (hr:jH d id=false) (w:World) (hd:d.In w w.heap.size):Calls prog 206 #[d.v,.int .i64 id] w fun e w'=>e=.returned (.tuple #[.agg #[.int .i64 0,.int .i64 0],.int .i64 3])∧Below w.heap.size w w':=by
 have:=mK d id DU w hd;rw[lB d h id,if_neg (by rw[hr];decide)]at this;exact this
theorem xw (l:List Int) (f:Int→Bool) (k:Nat) (hk:k<l.length) (h:f (l.getD k 0)=false):l.all f=false:=fv l 0 f k hk h
theorem tp (l:List Int) (f:Int→Bool) (k:Nat) (hk:k<l.length) (h0:(l.take k).all f=true) (h:f (l.getD k 0)=true):(l.take (k+1)).all f=true:=by
 rw[aX l k 0 hk,List.all_append,h0,List.all_cons,h];rfl
theorem qw (l:List Int) (f:Int→Int×Int) (k:Nat) (hk:k<l.length):(l.take (k+1)).map f=(l.take k).map f++[f (l.getD k 0)]:=by
 rw[aX l k 0 hk,List.map_append];rfl
theorem j4 (d:Dk) (v:Value) (ids:List Int) (w:World) (hd:d.In w w.heap.size) (hv:KI.IsL w w.heap.size v ids) (hl:ids.length≤1000):Calls prog 145 #[d.v,v] w fun e w'=>∃u,e=.returned (.tuple #[u,.int .i64 (cS d ids)])∧KS.Own w' w.heap.size u (dr d ids)∧Below w.heap.size w w':=by
 have HD:=aH hd;have HV:=aH hv;have HC:=aH (fun w h=>eS d w h);obtain⟨⟨A,cap,rfl,_,_⟩,_,_⟩:=hv;have LQ:=aH (show cS d ids=if aA d=0 then(if ids.all (jH d)=true then 0 else 3)else aA d from rfl);have Od:=aH (show dr d ids=if cS d ids=0 then ids.map (dg d)else []from rfl);obtain⟨w0,hw0⟩:∃w0,w0=w.alloc d.ob:=⟨_,rfl⟩;have CG:=aH (cI hw0);have CR:=aH (HD.out.then CG.out);have HF:=aH (show ∀w1,Below w0.heap.size w0 w1→(w1.cell? ⟨w.heap.size,0,none⟩=some (.slice d.bA d.bn d.bc)∧w1.cell? ⟨w.heap.size,1,none⟩=some (.slice d.pA d.pn d.pc)∧w1.cell? ⟨w.heap.size,2,none⟩=some (.slice d.rA d.rn d.rc)∧w1.cell? ⟨w.heap.size,3,none⟩=some (.int .i64 d.arms))from by
   intro w1 hb;refine⟨kK hb ?_,kK hb ?_,kK hb ?_,kK hb ?_⟩;all_goals (rw[hw0];simp))
 generalize dr d ids=SL at *;generalize cS d ids=SE at *;by_cases hz:aA d=0
 ·have Hg:=aH (fun id DU hr w h=>vV d id DU hz hr w h);have OS:=aH (fun id DU hr w h=>se d id DU hz hr w h);have Iz:=aH (fun id hr=>ms d HD.out hz id hr);have LQ:=aH (LQ.out.trans (if_pos hz));rw[hz]at HC;clear hz hd;go_enter func145,ntmps145;go_wp2_with fail;rw[←hw0];clear hw0;refine(HC.out _ CR.out).mono ?_;rintro e w1 ⟨rfl,CE⟩;have CH:=aH CE;clear CE;obtain⟨i0,hi,D9,DZ,hz2⟩:=info_parts KS.info;obtain⟨w3,hmk,CF,Ez⟩:=run_make_own (P:=prog) w1 w1.heap.size 130 134 i0 _ 2 underlying130 hi D9 DZ .i64 .i64 ids.length (by rw[hz2];show 16*ids.length≤_;omega) (by unfold maxLen;omega) (nR _);have Eo:=aH (show KS.Own w3 w1.heap.size (.slice (some ⟨w1.heap.size,0,none⟩) 0 ids.length) []from⟨CF,fun x hx=>by simp at hx⟩);have CS:=aH (show Below w1.heap.size w1 w3 from(bR _ _).grown Ez (nR _) (fun k hk=>by cases hk));clear CF Ez hi D9 DZ hz2;go_wp2_with fail;obtain⟨u0,hu0⟩:∃u0,u0=Value.slice (some ⟨w1.heap.size,0,none⟩) 0 ids.length:=⟨_,rfl⟩;rw[←hu0]at Eo;clear hmk
  go_loopw [7,22] (fun u i wr=>∃k:Nat,k≤ids.length∧i=.int .i64 k∧(ids.take k).all (jH d)=true∧KS.Own wr w1.heap.size u ((ids.take k).map (dg d))∧Below w1.heap.size w1 wr) (fun _ i _=>ids.length-(intOf i).toNat)
  case atStart=>exact⟨0,Nat.zero_le _,rfl,rfl,by rw[←hu0];exact Eo.out,CS.out⟩
  case round=>
   obtain⟨k,hk,rfl,hall,CF,CP⟩:=hrel;have HO:=aH CF;have HB:=aH CP;have HA:=aH hall;clear CF CP hall Eo CS hu0;by_cases CI:k<ids.length
   ·have SI:=aH (HV.out.below (CG.out.trans ((bC CH.out HB.out).mono CG.out.size)));obtain⟨b,off,cap',Ol,_,Gw,_,CD,De⟩:=KI.cells SI.out (by omega);obtain⟨rfl,rfl⟩:A=some ⟨b,off,none⟩∧cap'=cap:=(by cases Ol;exact⟨rfl,rfl⟩);have ck:=CD k CI;have fk:=De k CI;obtain⟨d0,d1,d2,d3⟩:=HF.out wr (bC CH.out HB.out);have Hr:=aH (CR.out.then (bC CH.out HB.out));have Hv:=aH (fun h=>tp ids (jH d) k CI HA.out h);have Rr:=aH (fun h=>xw ids (jH d) k CI h);have RW:=aH (qw ids (dg d) k CI);have CV:=aH (show((ids.take k).map (dg d)).length=k by simp;omega);clear Ol CD De;obtain⟨x,hx⟩:∃x,x=ids.getD k 0:=⟨_,rfl⟩;rw[←hx]at ck fk Hv Rr RW;clear hx;generalize (ids.take k).map (dg d)=L at *;by_cases hr:jH d x=true
    ·have HI:=aH (Hg.out x fk hr wr Hr.out);have hg:=Iz.out x hr;have Dl:=aH (Hv.out hr);generalize dg d x=t at *;obtain⟨t1,t2⟩:=t;dsimp only at *;have K3:=aH (show KS.ok (t1,t2)from⟨show ae t1 by unfold ae;omega,show ae t2 by unfold ae;omega⟩);clear hr fk hg;go_wp2_with fail;refine HI.out.mono ?_;rintro e w6 ⟨rfl,hb6⟩;have LE:=aH (HO.out.below hb6);have Ew:=aH (bC HB.out hb6);clear hb6 d0 d1 d2 d3;go_wp2_with (at_builtin;refine Lk.wpList_app (K:=KS) _ rfl _ _ rfl rfl w1.heap.size (w6.heap.size+1+1) _ _ L [(t1,t2)] rfl rfl ((LE.out.alloc _).alloc _) (Lk.IsL.lit (K:=KS) _ (t1,t2) _ K3.out rfl (w6.heap.size+1) (by simp)) ?c1 ?c2 ?_)
     case c1=>have:=CV.out;simp;omega
     case c2=>have:=Ew.out.size;simp;omega
     intro v9 w9 CF hgrow _;have Mb:=aH CF;have Lv:=aH (Lk.Own.grow' ((LE.out.alloc (.cells #[.int .i64 t1,.int .i64 t2] 134)).alloc (.cells #[.int .i64 t1,.int .i64 t2] 134)) (bL (bL Ew.out _) _) (by have:=Ew.out.size;simp;omega) hgrow);clear CF hgrow;go_wp2
     go_roundw
     case rel=>exact⟨k+1,by omega,ai (by omega),Dl.out,by rw[RW.out];exact Mb.out,Lv.out⟩
     case measure=>simp[intOf];omega
    ·have L5:jH d x=false:=(by simpa using hr);have HI:=aH (OS.out x fk L5 wr Hr.out);have hE:SE=3:=(by rw[LQ.out,Rr.out L5];rfl);have hS:SL=[]:=(by rw[Od.out,hE];rfl);subst hE hS;clear hr L5 fk;go_wp2_with fail;refine HI.out.mono ?_;rintro e w6 ⟨rfl,hb6⟩;have Ew:=aH (bC HB.out hb6);clear hb6 d0 d1 d2 d3;go_wp2
     go_ret2
     exact⟨_,rfl,Lk.Own.nil _ _,bC CG.out (bL (bC CH.out Ew.out) _)⟩
   ·obtain rfl:k=ids.length:=(by omega);rw[List.take_length]at HA HO;have hE:SE=0:=(by rw[LQ.out,if_pos HA.out]);have hS:SL=ids.map (dg d):=(by rw[Od.out,if_pos hE]);rw[←hS]at HO;subst hE;clear hS;go_wp2
    go_ret2
    exact⟨_,rfl,HO.out.mono (Nat.le_trans CG.out.size CH.out.size),bC CG.out (bC CH.out HB.out)⟩
 ·have hE:SE=aA d:=by rw[LQ.out,if_neg hz]
  have hS:SL=[]:=by rw[Od.out,if_neg (by rw[hE];exact hz)]
  have GB:(aA d != 0)=true:=by rw[bne_iff_ne];exact hz
  subst hE hS;clear LQ Od hz hd;generalize aA d=c at *;go_enter func145,ntmps145;go_wp2_with fail;rw[←hw0];clear hw0;refine(HC.out _ CR.out).mono ?_;rintro e w1 ⟨rfl,CE⟩;have CH:=aH CE;clear CE;go_wp2
  go_ret2
  exact⟨_,rfl,Lk.Own.nil _ _,bC CG.out CH.out⟩
def bY (F:Int) (lo n:Nat):List Int:=(List.range n).map fun i:Nat=>F+((lo:Int)+(i:Int))
noncomputable def de (d:Dk):Int:=(ci d).1+(ci d).2.1
theorem uX (d:Dk):0≤(ci d).1∧(ci d).1≤384∧0≤(ci d).2.1∧(ci d).2.1≤384∧ -1≤(ci d).2.2∧(ci d).2.2≤1000:=by
 unfold ci;by_cases hz:aJ d=0
 ·have Dj:=aU d hz;have h1:=uv d.pl fun i hi=>bi (Dj.pl i hi);have h2:=wg d.rl fun i hi=>Dj.rl i hi;have h3:=Dj.wells;have h4:=Dj.tips;have h5:=Dj.rise.most;rw[if_pos hz];dsimp only;omega
 ·rw[if_neg hz];decide
theorem nH (F:Int) (lo i:Nat):bY F lo (i+1)=bY F lo i++[F+((lo:Int)+(i:Int))]:=by
 unfold bY;rw[List.range_succ,List.map_append];rfl
theorem ew (F:Int) (lo i:Nat):(bY F lo i).length=i:=by unfold bY;simp
theorem bo {w:World} {B:Nat} {v:Value} {xs:List Int} (h:KI.IsL w B v xs):Two.IsL w B v xs:=by
 obtain⟨⟨A,cap,hv,hc,hA⟩,hf,hl⟩:=h;refine⟨⟨A,cap,hv,hc,fun h0=>?_⟩,hf,hl⟩;obtain⟨b,off,e,hb,CD⟩:=hA h0;refine⟨b,off,e,hb,fun i hi=>?_⟩;have:=CD i hi 0 (.int .i64 (xs.getD i 0)) rfl;simpa [KI]using this
theorem d9 {w:World} {B:Nat} {v:Value} {xs:List Int} (h:Two.IsL w B v xs):KI.IsL w B v xs:=by
 obtain⟨⟨A,cap,hv,hc,hA⟩,hf,hl⟩:=h;refine⟨⟨A,cap,hv,hc,fun h0=>?_⟩,hf,hl⟩;obtain⟨b,off,e,hb,CD⟩:=hA h0;refine⟨b,off,e,hb,fun i hi j u hu=>?_⟩;have hj:j=0:=by
  have:=(List.getElem?_eq_some_iff.1 hu).1;simp[KI]at this;exact this
 subst hj;have e2:u=.int .i64 (xs.getD i 0):=by
  simp[KI]at hu;rw[←hu];rfl
 subst e2;have:=CD i hi;simpa [KI]using this
theorem qD (lo n:Nat) (h2:lo+n≤23) (w:World):Calls prog 207 #[.agg #[.int .i64 lo,.int .i64 ((lo:Int)+n)]] w fun e w'=>e=.returned (.int .i64 ((n:Int)+1))∧Below w.heap.size w w':=by
 have HE:=aH (fun w=>show Calls prog 208 #[.agg #[.int .i64 lo,.int .i64 ((lo:Int)+n)]] w fun e w'=>e=.returned (.bool false)∧Below w.heap.size w w' by
  have:=Sp.empty_any lo ((lo:Int)+n) w
  rwa [show decide ((lo:Int)+n<lo)=false from dF (by omega)]at this)
 go_enter func207,ntmps207;go_wp2_with fail;refine(HE.out _).mono ?_;rintro e w1 ⟨rfl,CE⟩;have c0:w1.cell? ⟨w.heap.size,0,none⟩=some (.int .i64 lo):=kK CE (by simp);have c1:w1.cell? ⟨w.heap.size,1,none⟩=some (.int .i64 ((lo:Int)+n)):=kK CE (by simp);have CH:=aH (bC (bL (bR _ _) (.cells #[.int .i64 lo,.int .i64 ((lo:Int)+n)] 134)) CE);clear CE;go_wp2
 go_ret
 exact⟨aS (by omega),CH.out⟩
theorem j7 (d:Dk) (lo hi:Nat) (h1:lo≤hi) (h2:hi≤23) (w:World) (hd:d.In w w.heap.size):Calls prog 146 #[d.v,.agg #[.int .i64 lo,.int .i64 hi]] w fun e w'=>∃u,e=.returned u∧KI.Own w' w.heap.size u (bY (de d) lo (hi+1-lo))∧Below w.heap.size w w':=by
 obtain⟨n,rfl⟩:∃n,hi=lo+n:=⟨hi-lo,by omega⟩;rw[show lo+n+1-lo=n+1 by omega,show((lo+n:Nat):Int)=(lo:Int)+n from Int.natCast_add lo n];have HD:=aH hd;have NM:=aH (fun w h=>eO d w h);have NQ:=aH (fun w=>qD lo n h2 w);obtain⟨b1,b2,b3,b4,b5,b6⟩:=uX d;unfold de;obtain⟨w0,hw0⟩:∃w0,w0=(w.alloc d.ob).alloc (.cells #[.int .i64 lo,.int .i64 ((lo:Int)+n)] 134):=⟨_,rfl⟩;have CG:=aH (gj hw0);have CR:=aH (HD.out.then CG.out);have HF:=aH (show ∀w1,Below w0.heap.size w0 w1→(w1.cell? ⟨w.heap.size+1,0,none⟩=some (.int .i64 lo)∧w1.cell? ⟨w.heap.size+1,1,none⟩=some (.int .i64 ((lo:Int)+n)))from by
   intro w1 hb;refine⟨kK hb ?_,kK hb ?_⟩;all_goals (rw[hw0];simp[go_sem]))
 generalize ci d=c at *;obtain⟨c1,c2,c3⟩:=c;dsimp only at *;clear hd;go_enter func146,ntmps146;go_wp2_with fail;rw[←hw0];clear hw0;refine(NM.out _ CR.out).mono ?_;rintro e w1 ⟨rfl,CE⟩;obtain⟨s0,s1⟩:=HF.out w1 CE;have CH:=aH CE;clear CE;go_wp2_with fail;refine(NQ.out _).mono ?_;rintro e w2 ⟨rfl,CM⟩;obtain⟨s0',s1'⟩:=HF.out w2 (bC CH.out CM);have CL:=aH (bC CH.out CM);clear CM s0 s1 s0' s1';obtain⟨i0,hi,D9,DZ,hz2⟩:=info_parts KI.info;obtain⟨w3,hmk,CF,Ez⟩:=run_make_own (P:=prog) w2 w2.heap.size 27 3 i0 _ 1 underlying27 hi D9 DZ .i64 .i64 (n+1) (by rw[hz2];show 8*(n+1)≤_;omega) (by unfold maxLen;omega) (nR _);rw[show((n+1:Nat):Int)=(n:Int)+1 from rfl]at hmk;have Eo:=aH (show KI.Own w3 w2.heap.size (.slice (some ⟨w2.heap.size,0,none⟩) 0 (n+1)) []from⟨CF,fun x hx=>by simp at hx⟩);have CS:=aH (show Below w2.heap.size w2 w3 from(bR _ _).grown Ez (nR _) (fun k hk=>by cases hk));clear CF Ez hi D9 DZ hz2;obtain⟨s0,s1⟩:=HF.out w3 (bC CL.out CS.out);go_wp2_with fail;obtain⟨u0,hu0⟩:∃u0,u0=Value.slice (some ⟨w2.heap.size,0,none⟩) 0 (n+1):=⟨_,rfl⟩;rw[←hu0]at Eo;clear hmk s0 s1
 go_loopw [8,9] (fun u l wr=>∃k:Nat,k≤n+1∧l=.int .i64 ((lo:Int)+k)∧KI.Own wr w2.heap.size u (bY (c1+c2) lo k)∧Below w2.heap.size w2 wr) (fun _ l _=>lo+n+1-(intOf l).toNat)
 case atStart=>exact⟨0,Nat.zero_le _,by simp,by rw[←hu0];exact Eo.out,CS.out⟩
 case round=>
  obtain⟨k,hk,rfl,CF,CP⟩:=hrel;have HO:=aH CF;have HB:=aH CP;clear CF CP Eo hu0;obtain⟨s0,s1⟩:=HF.out wr (bC CL.out HB.out);by_cases CI:k≤n
  ·have HS:=aH (nH (c1+c2) lo k);have CV:=aH (ew (c1+c2) lo k);generalize bY (c1+c2) lo k=L at *;go_wp2_with (at_builtin;refine Lk.wpList_app (K:=KI) _ rfl _ _ rfl rfl w2.heap.size (wr.heap.size+1) _ _ L [c1+c2+((lo:Int)+(k:Int))] rfl rfl (HO.out.alloc _) (Lk.IsL.lit (K:=KI) _ (c1+c2+((lo:Int)+(k:Int))) _ (show ae _ by unfold ae;omega) (by simp[KI]) wr.heap.size rfl) ?c1 ?c2 ?_)
   case c1=>have:=CV.out;simp;omega
   case c2=>have:=HB.out.size;simp;omega
   intro v9 w9 CF hgrow _;have Mb:=aH CF;have Lv:=aH (Lk.Own.grow' (HO.out.alloc _) (bL HB.out _) (by have:=HB.out.size;simp;omega) hgrow);clear CF hgrow;go_wp2
   go_roundw
   case rel=>exact⟨k+1,by omega,ai (by omega),by rw[HS.out];exact Mb.out,Lv.out⟩
   case measure=>simp[intOf];omega
  ·obtain rfl:k=n+1:=(by omega);go_wp2
   go_ret
   exact⟨_,rfl,HO.out.mono (Nat.le_trans CG.out.size CL.out.size),bC CG.out (bC CL.out HB.out)⟩
theorem Lk.Own.shape {P:Program} {α:Type} {K:Lk P α} {w:World} {base:Nat} {v:Value} {xs:List α} (h:K.Own w base v xs) (h0:0<xs.length):∃g cap,v=.slice (some ⟨g,0,none⟩) xs.length cap∧base≤g∧g<w.heap.size∧xs.length≤cap:=by
 obtain⟨⟨h1,h2⟩,hf⟩:=h;rcases h2 with ⟨_,hn⟩|⟨g,cap,cur,rfl,CM,hg,hn,_⟩
 ·omega
 ·exact⟨g,cap,rfl,CM,(Array.getElem?_eq_some_iff.1 hg).1,hn⟩
theorem KI.flat_at (xs:List Int):KI.flat xs=xs.map fun x=>Value.int .i64 x:=by
 induction xs with
 |nil=>rfl
 |cons x r ih=>show Value.int .i64 x::KI.flat r=_;rw[ih];rfl
theorem KI.Own.put {w:World} {B g n c:Nat} {ys:List Int} (h:KI.Own w B (.slice (some ⟨g,0,none⟩) n c) ys) (hn:ys.length=n) (k:Nat) (x:Int) (hx:ae x):
  KI.Own (w.setCell ⟨g,k,none⟩ (.int .i64 x)) B (.slice (some ⟨g,0,none⟩) n c) (ys.set k x)∧w.grownBy (w.setCell ⟨g,k,none⟩ (.int .i64 x)) (some g):=by
 obtain⟨h1,h2⟩:=h;have q:=World.ownsRow.stored (n:=n) (by rw[hn]at h1;exact h1) k (.int .i64 x);refine⟨⟨?_,fun q hq=>?_⟩,q.2⟩
 ·rw[KI.flat_at]at q⊢;rw[List.length_set,hn,List.map_set];exact q.1
 ·rcases List.mem_or_eq_of_mem_set hq with hq|rfl
  ·exact h2 q hq
  ·exact hx
theorem KI.Own.at {w:World} {B g n c:Nat} {ys:List Int} (h:KI.Own w B (.slice (some ⟨g,0,none⟩) n c) ys) (hn:ys.length=n) (k:Nat) (hk:k<n):w.cell? ⟨g,k,none⟩=some (.int .i64 (ys.getD k 0))∧w.frozen? ⟨g,k,none⟩=false:=by
 obtain⟨h1,h2⟩:=h;rw[hn]at h1;refine⟨?_,h1.frozenAt k⟩;have:=h1.cellAt k (by show k<n*1;omega);rw[this,KI.flat_at,List.getElem?_map,List.getD_eq_getElem?_getD,List.getElem?_eq_getElem (by omega)];rfl
theorem Lk.flat_made {P:Program} {α:Type} (K:Lk P α) (z0:α) (hz:K.zero.cells.toList=K.cells z0) (n:Nat):(madeCells K.zero.cells (n*K.n)).toList=K.flat (List.replicate n z0):=by
 apply List.ext_getElem?;intro j;have hs:K.zero.cells.size=K.n:=K.zs;have hp:=K.pos;by_cases hj:j<n*K.n
 ·have hq:j/K.n<n:=(Nat.div_lt_iff_lt_mul hp).2 hj;have hr:=Nat.mod_lt j hp;have e:j=j/K.n*K.n+j%K.n:=by rw[Nat.mul_comm];exact(Nat.div_add_mod j K.n).symm
  have hf:=K.flat_at (List.replicate n z0) (j/K.n) (j%K.n) (by rw[List.length_replicate];exact hq) hr;rw[←e]at hf;rw[hf,List.getD_eq_getElem?_getD,List.getElem?_replicate,if_pos hq,Option.getD_some,←hz];simp[madeCells,hj,hs];have L5:j%K.n<K.zero.cells.size:=by rw[hs];exact hr
  rw[Array.getElem?_eq_getElem L5,getElem!_pos K.zero.cells (j%K.n) L5]
 ·rw[List.getElem?_eq_none (by rw[Array.length_toList,size_madeCells];omega),List.getElem?_eq_none (by rw[K.flat_len,List.length_replicate];omega)]
theorem Lk.flat_set3 {P:Program} {α:Type} {K:Lk P α} (hn:K.n=3) (ys:List α) (k:Nat) (y:α) (p0 p1 p2:Value) (hy:K.cells y=[p0,p1,p2]) (hk:k<ys.length):(((K.flat ys).set (k*3) p0).set (k*3+1) p1).set (k*3+2) p2=K.flat (ys.set k y):=by
 induction ys generalizing k with
 |nil=>simp at hk
 |cons z r ih=>
  have hz:=K.len z;rw[hn]at hz;obtain⟨z0,z1,z2,ez⟩:∃z0 z1 z2,K.cells z=[z0,z1,z2]:=by
   match h:K.cells z,hz with
   |[a,b,c],_=>exact⟨a,b,c,rfl⟩
  have e:K.flat (z::r)=z0::z1::z2::K.flat r:=by show K.cells z++K.flat r=_;rw[ez];rfl
  rw[e]
  cases k with
  |zero=>
   show p0::p1::p2::K.flat r=K.cells y++K.flat r;rw[hy];rfl
  |succ k=>
   have e2:K.flat ((z::r).set (k+1) y)=z0::z1::z2::K.flat (r.set k y):=(by show K.cells z++K.flat (r.set k y)=_;rw[ez];rfl);rw[e2,←ih k (by simpa using hk),show(k+1)*3=k*3+1+1+1 by omega,show k*3+1+1+1+1=(k*3+1)+1+1+1 by omega,show k*3+1+1+1+2=(k*3+2)+1+1+1 by omega];rfl
theorem Lk.flat_set2 {P:Program} {α:Type} {K:Lk P α} (hn:K.n=2) (ys:List α) (k:Nat) (y:α) (p0 p1:Value) (hy:K.cells y=[p0,p1]) (hk:k<ys.length):((K.flat ys).set (k*2) p0).set (k*2+1) p1=K.flat (ys.set k y):=by
 induction ys generalizing k with
 |nil=>simp at hk
 |cons z r ih=>
  have hz:=K.len z;rw[hn]at hz;obtain⟨z0,z1,ez⟩:∃z0 z1,K.cells z=[z0,z1]:=by
   match h:K.cells z,hz with
   |[a,b],_=>exact⟨a,b,rfl⟩
  have e:K.flat (z::r)=z0::z1::K.flat r:=by show K.cells z++K.flat r=_;rw[ez];rfl
  rw[e]
  cases k with
  |zero=>
   show p0::p1::K.flat r=K.cells y++K.flat r;rw[hy];rfl
  |succ k=>
   have e2:K.flat ((z::r).set (k+1) y)=z0::z1::K.flat (r.set k y):=(by show K.cells z++K.flat (r.set k y)=_;rw[ez];rfl);rw[e2,←ih k (by simpa using hk),show(k+1)*2=k*2+1+1 by omega,show k*2+1+1+1=(k*2+1)+1+1 by omega];rfl
theorem jD {α:Type} {ys:List α} {Q:α→Prop} (h:∀x∈ys,Q x) (k:Nat) (y:α) (hy:Q y):∀x∈ys.set k y,Q x:=fun q hq=>by
 rcases List.mem_or_eq_of_mem_set hq with hq|rfl
 ·exact h q hq
 ·exact hy
theorem Lk.Own.put3 {P:Program} {α:Type} {K:Lk P α} (hK:K.n=3) {w:World} {B g n c:Nat} {ys:List α} (h:K.Own w B (.slice (some ⟨g,0,none⟩) n c) ys) (hn:ys.length=n) (k:Nat) (hk:k<n) (y:α) (p0 p1 p2:Value) (hy:K.cells y=[p0,p1,p2]) (Dj:K.ok y):
  K.Own (((w.setCell ⟨g,k*3,none⟩ p0).setCell ⟨g,k*3+1,none⟩ p1).setCell ⟨g,k*3+2,none⟩ p2) B (.slice (some ⟨g,0,none⟩) n c) (ys.set k y):=by
 obtain⟨h1,h2⟩:=h;rw[hn]at h1;have q0:=(World.ownsRow.stored (n:=n) h1 (k*3) p0).1;have q1:=(World.ownsRow.stored (n:=n) q0 (k*3+1) p1).1;have q2:=(World.ownsRow.stored (n:=n) q1 (k*3+2) p2).1;rw[Lk.flat_set3 hK ys k y p0 p1 p2 hy (by omega)]at q2;exact⟨by rw[List.length_set,hn];exact q2,jD h2 k y Dj⟩
theorem Lk.Own.put2 {P:Program} {α:Type} {K:Lk P α} (hK:K.n=2) {w:World} {B g n c:Nat} {ys:List α} (h:K.Own w B (.slice (some ⟨g,0,none⟩) n c) ys) (hn:ys.length=n) (k:Nat) (hk:k<n) (y:α) (p0 p1:Value) (hy:K.cells y=[p0,p1]) (Dj:K.ok y):
  K.Own ((w.setCell ⟨g,k*2,none⟩ p0).setCell ⟨g,k*2+1,none⟩ p1) B (.slice (some ⟨g,0,none⟩) n c) (ys.set k y):=by
 obtain⟨h1,h2⟩:=h;rw[hn]at h1;have q0:=(World.ownsRow.stored (n:=n) h1 (k*2) p0).1;have q1:=(World.ownsRow.stored (n:=n) q0 (k*2+1) p1).1;rw[Lk.flat_set2 hK ys k y p0 p1 hy (by omega)]at q1;exact⟨by rw[List.length_set,hn];exact q1,jD h2 k y Dj⟩
theorem jV {α:Type} {l:List α} {i:Nat} {x:α} (h:l[i]? =some x):l.set (i) x=l:=by
 obtain⟨hi,e⟩:=List.getElem?_eq_some_iff.1 h;rw[←e,List.set_getElem_self]
theorem Lk.Own.put3c {P:Program} {α:Type} {K:Lk P α} (hK:K.n=3) {w:World} {B g n c:Nat} {ys:List α} (h:K.Own w B (.slice (some ⟨g,0,none⟩) n c) ys) (hn:ys.length=n) (k:Nat) (hk:k<n) (y:α) (p0 p1 p2 p:Value) (ho:K.cells (ys.getD k K.dflt)=[p0,p1,p]) (hy:K.cells y=[p0,p1,p2]) (Dj:K.ok y):
  K.Own (w.setCell ⟨g,k*3+2,none⟩ p2) B (.slice (some ⟨g,0,none⟩) n c) (ys.set k y):=by
 obtain⟨h1,h2⟩:=h;rw[hn]at h1;have q2:=(World.ownsRow.stored (n:=n) h1 (k*3+2) p2).1;have f0:=K.flat_at ys k 0 (by omega) (by omega);have f1:=K.flat_at ys k 1 (by omega) (by omega);rw[ho,hK]at f0 f1;have e:=Lk.flat_set3 hK ys k y p0 p1 p2 hy (by omega);rw[jV (i:=k*3) f0,jV f1]at e;rw[e]at q2;exact⟨by rw[List.length_set,hn];exact q2,jD h2 k y Dj⟩
theorem Lk.Own.cellAt {P:Program} {α:Type} {K:Lk P α} {w:World} {B g n c:Nat} {ys:List α} (h:K.Own w B (.slice (some ⟨g,0,none⟩) n c) ys) (hn:ys.length=n) (k j:Nat) (hk:k<n) (u:Value) (hu:(K.cells (ys.getD k K.dflt))[j]? =some u):w.cell? ⟨g,k*K.n+j,none⟩=some u∧w.frozen? ⟨g,k*K.n+j,none⟩=false:=by
 obtain⟨h1,h2⟩:=h;rw[hn]at h1;have hj:j<K.n:=by
  have:=(List.getElem?_eq_some_iff.1 hu).1;rw[K.len]at this;exact this
 refine⟨?_,h1.frozenAt _⟩;have hm:k*K.n+j<n*K.n:=by
  have:(k+1)*K.n≤n*K.n:=Nat.mul_le_mul_right _ hk;rw[Nat.succ_mul]at this;omega
 rw[h1.cellAt _ hm,K.flat_at ys k j (by omega) hj,hu]
theorem kF (v:Value) (o:List Int) (w:World) (hv:KI.IsL w w.heap.size v o) (hl:o.length≤100000):Calls prog 100 #[v] w fun e w'=>∃v',e=.returned v'∧KI.Own w' w.heap.size v' o∧Below w.heap.size w w':=by
 have HV:=aH hv;have q:∀(w:World) (a:Option Addr) (n c n' c':Nat),(binOp .eql 27 (.slice a n c) (.slice none n' c')).run prog w=.ok (.bool a.isNone) w:=fun w a n c n' c'=>Lib.run_eql_slice_nil w _ _ a n c n' c' underlying27;obtain⟨A,c,rfl,hc⟩:=hv.shape;clear hv
 match A with
 |none=>
  have h0:o.length=0:=by
   rcases Nat.eq_zero_or_pos o.length with h|h
   ·exact h
   ·obtain⟨b,off,e,_⟩:=HV.out.elem h
    cases e
  obtain rfl:=List.eq_nil_of_length_eq_zero h0;clear HV h0 hc;simp only[List.length_nil];go_enter func100,ntmps100;go_wp2
  go_ret
  exact⟨_,rfl,Lk.Own.nil _ _,bR _ _⟩
 |some a=>
  go_enter func100,ntmps100;go_wp2_with (at_builtin;refine Lk.wpList_app (K:=KI) _ rfl _ _ rfl rfl w.heap.size w.heap.size _ _ [] o rfl rfl (Lk.Own.made w w.heap.size 0 #[] (nR _) (by unfold maxLen;omega) rfl) (HV.out.below (bL (bR _ w) _)) ?c1 ?c2 ?_)
  case c1=>simp;omega
  case c2=>simp
  intro v1 w4 CF hgrow _;have CW:=aH (Lk.Own.grow' (K:=KI) (Lk.Own.made w w.heap.size 0 #[] (nR _) (by unfold maxLen;omega) rfl) (bL (bR _ w) _) (by simp) hgrow);have DB:=aH CF;clear CF hgrow;go_wp2
  go_ret
  exact⟨_,rfl,by simpa using DB.out,CW.out⟩
theorem nM (x z who:Int) (b1 b0 bw:Nat) (v:Value) (o:List Int) (w:World) (h1:w.cell? ⟨b1,0,none⟩=some (.func (.func 227) #[] #[.pointer (some ⟨bw,0,none⟩)])) (h2:w.cell? ⟨bw,0,none⟩=some (.int .i64 who)) (h0:w.cell? ⟨b0,0,none⟩=some v)
  (hv:KI.IsL w w.heap.size v o) (hx:0≤x) (DY:x<o.length) (hz:o.getD x.toNat 0=z):Calls prog 231 #[.int .i64 x,.pointer (some ⟨b1,0,none⟩),.pointer (some ⟨b0,0,none⟩)] w fun e w'=>e=.returned (.bool (!(decide (z=0)||decide (z=who))))∧Below w.heap.size w w':=by
 obtain⟨j,rfl⟩:=Int.eq_ofNat_of_zero_le hx;obtain⟨b,off,cap,rfl,hc,hb,hl,CD,hf⟩:=KI.cells hv (by omega);have e1:=CD j (by omega);rw[show((j:Int)).toNat=j from rfl]at hz;rw[hz]at e1;have HA:=aH (fun n=>ny z who bw (w.drewN n) h2);clear hz CD hf hv h2;generalize (decide (z=0)||decide (z=who))=q at *;go_enter func231,ntmps231;go_wp2_with fail;go_quiet ((go_at_call 227;exact Calls.quiet_of_same ((HA.out _).mono fun _ _ q=>⟨q.1,q.2.symm⟩)));go_wp2
 go_ret
 exact⟨rfl,aa (bR _ _) _⟩
theorem nT (x z who:Int) (b1 b0 bw:Nat) (v:Value) (o:List Int) (w:World) (h1:w.cell? ⟨b1,0,none⟩=some (.func (.func 182) #[] #[.pointer (some ⟨bw,0,none⟩)])) (h2:w.cell? ⟨bw,0,none⟩=some (.int .i64 who)) (h0:w.cell? ⟨b0,0,none⟩=some v)
  (hv:KI.IsL w w.heap.size v o) (hx:0≤x) (DY:x<o.length) (hz:o.getD x.toNat 0=z):Calls prog 231 #[.int .i64 x,.pointer (some ⟨b1,0,none⟩),.pointer (some ⟨b0,0,none⟩)] w fun e w'=>e=.returned (.bool (!decide (z=who)))∧Below w.heap.size w w':=by
 obtain⟨j,rfl⟩:=Int.eq_ofNat_of_zero_le hx;obtain⟨b,off,cap,rfl,hc,hb,hl,CD,hf⟩:=KI.cells hv (by omega);have e1:=CD j (by omega);rw[show((j:Int)).toNat=j from rfl]at hz;rw[hz]at e1;have HA:=aH (fun n=>ry z who bw (w.drewN n) h2);clear hz CD hf hv h2;generalize decide (z=who)=q at *;go_enter func231,ntmps231;go_wp2_with fail;go_quiet ((go_at_call 182;exact Calls.quiet_of_same ((HA.out _).mono fun _ _ q=>⟨q.1,q.2.symm⟩)));go_wp2
 go_ret
 exact⟨rfl,aa (bR _ _) _⟩
def uG (o:List Int) (who x:Int):Bool:=!cW o.length x|| !decide (o.getD x.toNat 0=who)
theorem n6 (x who:Int) (b0 bw:Nat) (v:Value) (o:List Int) (w:World) (h2:w.cell? ⟨bw,0,none⟩=some (.int .i64 who)) (h0:w.cell? ⟨b0,0,none⟩=some v)
  (hv:KI.IsL w w.heap.size v o):Calls prog 178 #[.int .i64 x,.pointer (some ⟨b0,0,none⟩),.pointer (some ⟨bw,0,none⟩)] w fun e w'=>e=.returned (.bool (uG o who x))∧Below w.heap.size w w':=by
 obtain⟨A,c,rfl,hc⟩:=hv.shape;have e:uG o who x=(!cW o.length x|| !decide (o.getD x.toNat 0=who)):=rfl;have HA:=aH (fun n=>xZ A o.length c x (w.drewN n));by_cases hh:0≤x∧x<o.length
 ·have e2:cW o.length x=true:=by unfold cW;rw[dT hh.1,dT hh.2];rfl
  rw[e2]at e HA;simp only[Bool.not_true,Bool.false_or]at e;rw[e];obtain⟨hx,DY⟩:=hh;obtain⟨j,rfl⟩:=Int.eq_ofNat_of_zero_le hx;obtain⟨b,off,cap,hs,hc,hb,hl,CD,hf⟩:=KI.cells hv (by omega);simp only[Value.slice.injEq]at hs;obtain⟨rfl,_,rfl⟩:=hs;have e1:=CD j (by omega);rw[show((j:Int)).toNat=j from rfl];clear CD hf hv e e2;generalize o.getD j 0=z at *;go_enter func178,ntmps178;go_wp2_with fail;go_quiet ((go_at_call 179;exact Calls.quiet_of_same ((HA.out _).mono fun _ _ q=>⟨q.1,q.2.symm⟩)));go_wp2
  go_ret
  exact⟨aj (by rw[Bool.eq_iff_iff];simp),aa (bR _ _) _⟩
 ·have e2:cW o.length x=false:=by unfold cW;rw[Bool.and_eq_false_iff,decide_eq_false_iff_not,decide_eq_false_iff_not];omega
  rw[e2]at e HA;simp only[Bool.not_false,Bool.true_or]at e;rw[e];clear e e2 hv;go_enter func178,ntmps178;go_wp2_with fail;go_quiet ((go_at_call 179;exact Calls.quiet_of_same ((HA.out _).mono fun _ _ q=>⟨q.1,q.2.symm⟩)));go_wp2
  go_ret
  exact⟨rfl,aa (bR _ _) _⟩
theorem dY (a b:Int) (ha:ae a) (hb:ae b) (w:World):Calls prog 225 #[.int .i64 a,.int .i64 b] w fun e w'=>e=.returned (.tuple #[.int .i64 (bW (a+b)),.int .i64 (cj (a+b))])∧w=w':=by
 unfold ae at ha hb;go_enter func225,ntmps225;go_wp2;all_goals
  go_ret2
  refine⟨bd ?_ ?_,rfl⟩;all_goals
   simp only[bW,cj,ae]at *;(try simp only[wrap64]at *)
   first|omega|(split<;>omega)
end Go.Proofs.YtmecohdedghiaaaGreatDoor
