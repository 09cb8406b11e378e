/- What a deck says is not where its lists lie. -/
import Derived.Test.YtmecohdedghiaaaGreatDoorPn00
import Derived.Test.YtmecohdedghiaaaGreatDoorPn35
import Derived.Test.YtmecohdedghiaaaGreatDoorPn23
set_option maxRecDepth 100000
set_option maxHeartbeats 8000000
namespace Go.Proofs.YtmecohdedghiaaaGreatDoor
open Go.RowKit
theorem ab_bl (d:Dk):d.ab.bl=d.bl:=rfl
theorem ab_rl (d:Dk):d.ab.rl=d.rl:=rfl
theorem ab_arms (d:Dk):d.ab.arms=d.arms:=rfl
theorem ab_pl (d:Dk):d.ab.pl=d.pl.map Pl.ab:=rfl
theorem ab_pll (d:Dk):d.ab.pl.length=d.pl.length:=by rw[ab_pl,List.length_map]
theorem ab_getD (l:List Pl) (i:Nat):(l.map Pl.ab).getD i KP.dflt=(l.getD i KP.dflt).ab:=by
 rw[List.getD_eq_getElem?_getD,List.getD_eq_getElem?_getD,List.getElem?_map]
 cases l[i]? <;>rfl
theorem ab_wells (l:List Pl):wellsV (l.map Pl.ab)=wellsV l:=by unfold wellsV;rw[List.map_map];rfl
theorem ab_all (l:List Pl):(l.map Pl.ab).all plateB=l.all plateB:=by rw[List.all_map];rfl
theorem ab_dchk (d:Dk):dchk d.ab=dchk d:=by
 unfold dchk;simp only[ab_bl,ab_rl,ab_arms,ab_pl,List.length_map,ab_wells,ab_all]
theorem ab_units (d:Dk):unitsL d.ab=unitsL d:=by
 unfold unitsL;have h:plateU d.ab.pl=plateU d.pl:=by
  funext i
  unfold plateU;rw[ab_pl,ab_getD];rfl
 rw[h,ab_pll,ab_rl,ab_bl]
theorem ab_partsL (d:Dk):partsL d.ab=partsL d:=by unfold partsL;rw[ab_units]
theorem ab_partV (d:Dk) (id:Int):partV d.ab id=partV d id:=by unfold partV;rw[ab_dchk,ab_partsL]
theorem ab_partsK (d:Dk):partsK d.ab=partsK d:=by unfold partsK;rw[ab_dchk,ab_partsL]
theorem ab_cntV (d:Dk):cntV d.ab=cntV d:=by unfold cntV;rw[ab_dchk,ab_pl,ab_wells,ab_rl,ab_bl]
theorem ab_racks (d:Dk):racksL d.ab=racksL d:=by unfold racksL;rw[ab_pl,List.map_map,ab_rl];rfl
theorem ab_zE (d:Dk):zE d.ab=zE d:=by unfold zE;rw[ab_racks,ab_bl]
theorem ab_zchk (d:Dk):zchk d.ab=zchk d:=by unfold zchk;rw[ab_dchk,ab_zE]
theorem ab_rkOf (d:Dk) (p:Q4):rkOf d.ab p=rkOf d p:=by unfold rkOf;rw[ab_pl,ab_getD,ab_rl];rfl
theorem ab_spnP (d:Dk):spnP d.ab=spnP d:=by funext p;unfold spnP;rw[ab_rkOf,ab_bl]
theorem ab_tabP (d:Dk):tabP d.ab=tabP d:=by unfold tabP;rw[ab_partsL,ab_spnP]
theorem ab_tabV (d:Dk):tabV d.ab=tabV d:=by unfold tabV;rw[ab_zchk,ab_tabP]
theorem ab_inR (d:Dk):inR d.ab=inR d:=by funext i;unfold inR;rw[ab_tabV]
theorem ab_spA (d:Dk):spA d.ab=spA d:=by funext i;unfold spA;rw[ab_tabV]
theorem ab_spsE (d:Dk) (ids:List Int):spsE d.ab ids=spsE d ids:=by unfold spsE;rw[ab_zchk,ab_inR]
theorem ab_spsL (d:Dk) (ids:List Int):spsL d.ab ids=spsL d ids:=by unfold spsL;rw[ab_spsE,ab_spA]
theorem ab_frst (d:Dk):frst d.ab=frst d:=by unfold frst;rw[ab_cntV]
theorem ab_lanP (d:Dk) (p:Int×Int):lanP d.ab p=lanP d p:=by unfold lanP;rw[ab_frst]
theorem ab_foldS (d:Dk) (l:List (Int×Int)):foldS d.ab l=foldS d l:=by unfold foldS;simp only[ab_lanP]
theorem ab_setV (d:Dk) (ids:List Int):setV d.ab ids=setV d ids:=by unfold setV;rw[ab_foldS,ab_spsL]
theorem ab_pathV (d:Dk) (a b:Int):pathV d.ab a b=pathV d a b:=by unfold pathV;rw[ab_spsE,ab_frst,ab_spA]
theorem ab_iwP (d:Dk) (k id:Int):iwP d.ab k id=iwP d k id:=by unfold iwP;rw[ab_partV]
theorem ab_nmF (d:Dk) (r:Rq):nmF d.ab r=nmF d r:=by unfold nmF;simp only[ab_iwP]
theorem ab_refV (d:Dk) (r:Rq):refV d.ab r=refV d r:=by unfold refV;rw[ab_zchk,ab_nmF]
theorem ab_muL (d:Dk) (r:Rq):muL d.ab r=muL d r:=by unfold muL;rw[ab_pathV,ab_setV]
theorem ab_muV (d:Dk) (r:Rq):muV d.ab r=muV d r:=by unfold muV;rw[ab_refV,ab_muL]
theorem ab_plC (q:Pl):plC q.ab=plC q:=rfl
theorem ab_newCn (l:List Pl) (n:Nat):newCn (l.map Pl.ab) n=newCn l n:=by unfold newCn;simp only[ab_getD,ab_plC]
theorem ab_newA (d:Dk):newA d.ab=newA d:=by
 unfold newA wellN tipN;rw[ab_pl,List.length_map,ab_newCn,ab_wells,ab_rl]
theorem ab_isP (d:Dk) (k id:Int):isP d.ab k id=isP d k id:=by unfold isP;rw[ab_partV]
theorem ab_rgS (d:Dk) (a:Ab):rgS d.ab a=rgS d a:=by unfold rgS;rw[ab_zchk,ab_newA,ab_arms]
theorem ab_cgE (d:Dk) (a:Ab) (b E:Int):cgE d.ab a b E=cgE d a b E:=by unfold cgE;rw[ab_rgS,ab_arms]
theorem ab_taE (d:Dk) (a:Ab) (b id:Int):taE d.ab a b id=taE d a b id:=by unfold taE;rw[ab_isP]
theorem ab_haV (d:Dk) (a:Ab) (b:Int):haV d.ab a b=haV d a b:=by unfold haV;rw[ab_rgS]
structure Md.Sm (m n:Md):Prop where
 d:m.d.ab=n.d.ab
 s:m.s.ab=n.s.ab
 o:m.o=n.o
end Go.Proofs.YtmecohdedghiaaaGreatDoor
