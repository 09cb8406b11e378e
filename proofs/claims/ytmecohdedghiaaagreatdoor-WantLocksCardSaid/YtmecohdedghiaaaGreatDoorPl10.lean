/- The lanes that parts need: what the program and the reference answer. -/
import Derived.Test.YtmecohdedghiaaaGreatDoorPl07
import Derived.Test.YtmecohdedghiaaaGreatDoorPl09
namespace Go.Proofs.YtmecohdedghiaaaGreatDoor
open Go.RowKit
/-- Is there such an id? -/
noncomputable def inR (d : Dk) (id : Int) : Bool := decide (0 ≤ id ∧ id < (tabV d).length)
/-- The lanes of an id that is there. -/
noncomputable def spA (d : Dk) (id : Int) : Int × Int := (tabV d).getD id.toNat (0, 0)
noncomputable def spsE (d : Dk) (ids : List Int) : Int := if zchk d = 0 then (if ids.all (inR d) = true then 0 else 3) else zchk d
noncomputable def spsL (d : Dk) (ids : List Int) : List (Int × Int) := if spsE d ids = 0 then ids.map (spA d) else []
theorem zchk_d (d : Dk) (h : zchk d = 0) : dchk d = 0 := by
 unfold zchk at h
 by_cases e : dchk d = 0
 ·exact e
 ·rw [if_neg e] at h; exact h
theorem tabV_z (d : Dk) (h : zchk d = 0) : tabV d = pairs (tabP d) := by unfold tabV; rw [if_pos h]
theorem tab_0 (d : Dk) (h : zchk d = 0) : ∀ t ∈ tabP d, t.2.2 = 0 := by
 have hd := zchk_d d h
 have : fstE (tabP d) = 0 := by
  rw [fst_tab d (dchk_ok d hd)]
  unfold zchk at h
  rw [if_pos hd] at h
  exact h
 exact fst_0 _ this
theorem tabV_len (d : Dk) (h : zchk d = 0) : (tabV d).length = (partsK d).length := by
 rw [tabV_z d h, pairs_len, tab_len0]
 unfold partsK
 rw [if_pos (zchk_d d h)]
theorem span_tab (d : Dk) (h : zchk d = 0) (id : Int) : spanV d id = if inR d id = true then (((tabP d).getD id.toNat (0, 0, 0)).1, ((tabP d).getD id.toNat (0, 0, 0)).2.1, 0) else (0, 0, 3) := by
 have hd := zchk_d d h
 have hl := tabV_len d h
 unfold spanV
 rw [partV_K d id hd]
 unfold partR inR
 rw [hl]
 by_cases hr : id < 0 ∨ ((partsK d).length : Int) ≤ id
 ·rw [if_pos hr, if_neg (by decide), if_neg (by simp; omega)]
 ·rw [if_neg hr, if_pos rfl, if_pos (by simp; omega)]
  have hk : id.toNat < (partsK d).length := by omega
  have e := tab_at d hd id.toNat hk
  dsimp only
  rw [← e]
  have hm : (tabP d).getD id.toNat (0, 0, 0) ∈ tabP d := getD_mem' _ _ _ (by rw [tab_len0]; unfold partsK at hk; rw [if_pos hd] at hk; exact hk)
  have h0 := tab_0 d h _ hm
  generalize (tabP d).getD id.toNat (0, 0, 0) = t at *
  obtain ⟨t1, t2, t3⟩ := t
  dsimp only at h0
  subst h0
  rfl
theorem spA_tab (d : Dk) (h : zchk d = 0) (id : Int) (hr : inR d id = true) : spA d id = ((((tabP d).getD id.toNat (0, 0, 0)).1 : Int), (((tabP d).getD id.toNat (0, 0, 0)).2.1 : Int)) := by
 unfold spA
 unfold inR at hr
 have hr := of_decide_eq_true hr
 rw [tabV_z d h] at hr ⊢
 rw [pairs_len] at hr
 rw [List.getD_eq_getElem?_getD, List.getD_eq_getElem?_getD]
 unfold pairs
 rw [List.getElem?_map, List.getElem?_eq_getElem (show id.toNat < (tabP d).length by omega)]
 rfl
theorem spA_good (d : Dk) {w : World} (hd : d.In w w.heap.size) (h : zchk d = 0) (id : Int) (hr : inR d id = true) : 0 ≤ (spA d id).1 ∧ (spA d id).1 ≤ (spA d id).2 ∧ (spA d id).2 ≤ 23 := by
 have hz := zchk_d d h
 rw [spA_tab d h id hr]
 have hr := of_decide_eq_true hr
 rw [tabV_len d h] at hr
 have hk : id.toNat < (partsK d).length := by omega
 have hm := getD_mem' (partsK d) id.toNat ⟨0, 0, 0, 0⟩ hk
 have e := tab_at d hz id.toNat hk
 have hm2 : (tabP d).getD id.toNat (0, 0, 0) ∈ tabP d := getD_mem' _ _ _ (by rw [tab_len0]; unfold partsK at hk; rw [if_pos hz] at hk; exact hk)
 have h0 := tab_0 d h _ hm2
 rw [e] at h0 ⊢
 have := spn_good d hd _ hm h0
 dsimp only
 omega
theorem span_in (d : Dk) (id : Int) (hid : fits id) (h : zchk d = 0) (hr : inR d id = true) (w : World) (hd : d.In w w.heap.size) : Calls Tryz.prog 206 #[d.v, .int .i64 id] w fun e w' => e = .returned (.tuple #[.agg #[.int .i64 (spA d id).1, .int .i64 (spA d id).2], .int .i64 0]) ∧ Below w.heap.size w w' := by
 have := span_any d id hid w hd
 rw [span_tab d h id, if_pos hr] at this
 rw [spA_tab d h id hr]
 exact this
theorem span_out (d : Dk) (id : Int) (hid : fits id) (h : zchk d = 0) (hr : inR d id = false) (w : World) (hd : d.In w w.heap.size) : Calls Tryz.prog 206 #[d.v, .int .i64 id] w fun e w' => e = .returned (.tuple #[.agg #[.int .i64 0, .int .i64 0], .int .i64 3]) ∧ Below w.heap.size w w' := by
 have := span_any d id hid w hd
 rw [span_tab d h id, if_neg (by rw [hr]; decide)] at this
 exact this
theorem all_hit (l : List Int) (f : Int → Bool) (k : Nat) (hk : k < l.length) (h : f (l.getD k 0) = false) : l.all f = false := all_no' l 0 f k hk h
theorem all_take (l : List Int) (f : Int → Bool) (k : Nat) (hk : k < l.length) (h0 : (l.take k).all f = true) (h : f (l.getD k 0) = true) : (l.take (k + 1)).all f = true := by
 rw [take_snoc l k 0 hk, List.all_append, h0, List.all_cons, h]
 rfl
theorem map_take1 (l : List Int) (f : Int → Int × Int) (k : Nat) (hk : k < l.length) : (l.take (k + 1)).map f = (l.take k).map f ++ [f (l.getD k 0)] := by
 rw [take_snoc l k 0 hk, List.map_append]
 rfl
set_option maxRecDepth 100000 in
set_option maxHeartbeats 8000000 in
theorem spans_any (d : Dk) (v : Value) (ids : List Int) (w : World) (hd : d.In w w.heap.size) (hv : KI.IsL w w.heap.size v ids) (hl : ids.length ≤ 1000) : Calls Tryz.prog 145 #[d.v, v] w fun e w' => ∃ u, e = .returned (.tuple #[u, .int .i64 (spsE d ids)]) ∧ KS.Own w' w.heap.size u (spsL d ids) ∧ Below w.heap.size w w' := by
 have HD := Lib.hid hd
 have HV := Lib.hid hv
 have HC := Lib.hid (fun w h => zcheck_any d w h)
 obtain ⟨⟨A, cap, rfl, _, _⟩, _, _⟩ := hv
 have HSE := Lib.hid (show spsE d ids = if zchk d = 0 then (if ids.all (inR d) = true then 0 else 3) else zchk d from rfl)
 have HSL := Lib.hid (show spsL d ids = if spsE d ids = 0 then ids.map (spA d) else [] from rfl)
 obtain ⟨w0, hw0⟩ : ∃ w0, w0 = w.alloc (.cells #[.slice d.bA d.bn d.bc, .slice d.pA d.pn d.pc, .slice d.rA d.rn d.rc, .int .i64 d.arms] 26) := ⟨_, rfl⟩
 have HB0 := Lib.hid (show Below w.heap.size w w0 by rw [hw0]; exact Below.al (Below.refl _ _) _)
 have HD0 := Lib.hid (HD.out.then HB0.out)
 have HF := Lib.hid (show ∀ w1, Below w0.heap.size w0 w1 → (w1.cell? ⟨w.heap.size, 0, none⟩ = some (.slice d.bA d.bn d.bc) ∧ w1.cell? ⟨w.heap.size, 1, none⟩ = some (.slice d.pA d.pn d.pc) ∧ w1.cell? ⟨w.heap.size, 2, none⟩ = some (.slice d.rA d.rn d.rc) ∧ w1.cell? ⟨w.heap.size, 3, none⟩ = some (.int .i64 d.arms)) from by
   intro w1 hb
   refine ⟨keep_cell hb ?_, keep_cell hb ?_, keep_cell hb ?_, keep_cell hb ?_⟩
   all_goals (rw [hw0]; simp))
 generalize spsL d ids = SL at *
 generalize spsE d ids = SE at *
 by_cases hz : zchk d = 0
 ·have HIN := Lib.hid (fun id hid hr w h => span_in d id hid hz hr w h)
  have HOUT := Lib.hid (fun id hid hr w h => span_out d id hid hz hr w h)
  have HGD := Lib.hid (fun id hr => spA_good d HD.out hz id hr)
  have HSE := Lib.hid (HSE.out.trans (if_pos hz))
  rw [hz] at HC
  clear hz hd
  go_enter Tryz.func145, Tryz.ntmps145
  go_wp2_with fail
  rw [← hw0]
  clear hw0
  refine (HC.out _ HD0.out).mono ?_
  rintro e w1 ⟨rfl, hb1⟩
  have HB1 := Lib.hid hb1
  clear hb1
  obtain ⟨i0, hi, hz0, hz1, hz2⟩ := info_parts KS.info
  obtain ⟨w3, hmk, hown, hgr⟩ := run_make_own (P := Tryz.prog) w1 w1.heap.size 130 134 i0 _ 2 Tryz.underlying130 hi hz0 hz1 .i64 .i64 ids.length (by rw [hz2]; show 16 * ids.length ≤ _; omega) (by unfold maxLen; omega) (Nat.le_refl _)
  have HO3 := Lib.hid (show KS.Own w3 w1.heap.size (.slice (some ⟨w1.heap.size, 0, none⟩) 0 ids.length) [] from ⟨hown, fun x hx => by simp at hx⟩)
  have HB3 := Lib.hid (show Below w1.heap.size w1 w3 from (Below.refl _ _).grown hgr (Nat.le_refl _) (fun k hk => by cases hk))
  clear hown hgr hi hz0 hz1 hz2
  go_wp2_with fail
  obtain ⟨u0, hu0⟩ : ∃ u0, u0 = Value.slice (some ⟨w1.heap.size, 0, none⟩) 0 ids.length := ⟨_, rfl⟩
  rw [← hu0] at HO3
  clear hmk
  go_loopw [7, 22] (fun u i wr => ∃ k : Nat, k ≤ ids.length ∧ i = .int .i64 k ∧ (ids.take k).all (inR d) = true ∧ KS.Own wr w1.heap.size u ((ids.take k).map (spA d)) ∧ Below w1.heap.size w1 wr) (fun _ i _ => ids.length - (intOf i).toNat)
  case atStart => exact ⟨0, Nat.zero_le _, rfl, rfl, by rw [← hu0]; exact HO3.out, HB3.out⟩
  case round =>
   obtain ⟨k, hk, rfl, hall, hown, hbl⟩ := hrel
   have HO := Lib.hid hown
   have HB := Lib.hid hbl
   have HA := Lib.hid hall
   clear hown hbl hall HO3 HB3 hu0
   by_cases hlt : k < ids.length
   ·have HVr := Lib.hid (HV.out.below (HB0.out.trans ((Below.call HB1.out HB.out).mono HB0.out.size)))
    obtain ⟨b, off, cap', hv', _, hb', _, hcell, hfit⟩ := KI.cells HVr.out (by omega)
    obtain ⟨rfl, rfl⟩ : A = some ⟨b, off, none⟩ ∧ cap' = cap := by cases hv'; exact ⟨rfl, rfl⟩
    have ck := hcell k hlt
    have fk := hfit k hlt
    obtain ⟨d0, d1, d2, d3⟩ := HF.out wr (Below.call HB1.out HB.out)
    have HDW := Lib.hid (HD0.out.then (Below.call HB1.out HB.out))
    have HAT := Lib.hid (fun h => all_take ids (inR d) k hlt HA.out h)
    have HAH := Lib.hid (fun h => all_hit ids (inR d) k hlt h)
    have HMT := Lib.hid (map_take1 ids (spA d) k hlt)
    have HLN := Lib.hid (show ((ids.take k).map (spA d)).length = k by simp; omega)
    clear hv' hcell hfit
    obtain ⟨x, hx⟩ : ∃ x, x = ids.getD k 0 := ⟨_, rfl⟩
    rw [← hx] at ck fk HAT HAH HMT
    clear hx
    generalize (ids.take k).map (spA d) = L at *
    by_cases hr : inR d x = true
    ·have HI := Lib.hid (HIN.out x fk hr wr HDW.out)
     have hg := HGD.out x hr
     have HA1 := Lib.hid (HAT.out hr)
     generalize spA d x = t at *
     obtain ⟨t1, t2⟩ := t
     dsimp only at *
     have HOKT := Lib.hid (show KS.ok (t1, t2) from ⟨show fits t1 by unfold fits; omega, show fits t2 by unfold fits; omega⟩)
     clear hr fk hg
     go_wp2_with fail
     refine HI.out.mono ?_
     rintro e w6 ⟨rfl, hb6⟩
     have HO6 := Lib.hid (HO.out.below hb6)
     have HB6 := Lib.hid (Below.call HB.out hb6)
     clear hb6 d0 d1 d2 d3
     go_wp2_with (at_builtin; refine Lk.wpList_app (K := KS) _ rfl _ _ rfl rfl w1.heap.size (w6.heap.size + 1 + 1) _ _ L [(t1, t2)] rfl rfl ((HO6.out.alloc _).alloc _) (Lk.IsL.lit (K := KS) _ (t1, t2) _ HOKT.out rfl (w6.heap.size + 1) (by simp)) ?c1 ?c2 ?_)
     case c1 => have := HLN.out; simp; omega
     case c2 => have := HB6.out.size; simp; omega
     intro v9 w9 hown hgrow _
     have HO9 := Lib.hid hown
     have HB9 := Lib.hid (Lk.Own.grow' ((HO6.out.alloc (.cells #[.int .i64 t1, .int .i64 t2] 134)).alloc (.cells #[.int .i64 t1, .int .i64 t2] 134)) (Below.al (Below.al HB6.out _) _) (by have := HB6.out.size; simp; omega) hgrow)
     clear hown hgrow
     go_wp2
     go_roundw
     case rel => exact ⟨k + 1, by omega, num_i (by omega), HA1.out, by rw [HMT.out]; exact HO9.out, HB9.out⟩
     case measure => simp [intOf]; omega
    ·have hr' : inR d x = false := by simpa using hr
     have HI := Lib.hid (HOUT.out x fk hr' wr HDW.out)
     have hE : SE = 3 := by rw [HSE.out, HAH.out hr']; rfl
     have hS : SL = [] := by rw [HSL.out, hE]; rfl
     subst hE hS
     clear hr hr' fk
     go_wp2_with fail
     refine HI.out.mono ?_
     rintro e w6 ⟨rfl, hb6⟩
     have HB6 := Lib.hid (Below.call HB.out hb6)
     clear hb6 d0 d1 d2 d3
     go_wp2
     go_ret2
     exact ⟨_, rfl, Lk.Own.nil _ _, Below.call HB0.out (Below.al (Below.call HB1.out HB6.out) _)⟩
   ·obtain rfl : k = ids.length := by omega
    rw [List.take_length] at HA HO
    have hE : SE = 0 := by rw [HSE.out, if_pos HA.out]
    have hS : SL = ids.map (spA d) := by rw [HSL.out, if_pos hE]
    rw [← hS] at HO
    subst hE
    clear hS
    go_wp2
    go_ret2
    exact ⟨_, rfl, HO.out.mono (Nat.le_trans HB0.out.size HB1.out.size), Below.call HB0.out (Below.call HB1.out HB.out)⟩
 ·have hE : SE = zchk d := by rw [HSE.out, if_neg hz]
  have hS : SL = [] := by rw [HSL.out, if_neg (by rw [hE]; exact hz)]
  have hz' : (zchk d != 0) = true := by rw [bne_iff_ne]; exact hz
  subst hE hS
  clear HSE HSL hz hd
  generalize zchk d = c at *
  go_enter Tryz.func145, Tryz.ntmps145
  go_wp2_with fail
  rw [← hw0]
  clear hw0
  refine (HC.out _ HD0.out).mono ?_
  rintro e w1 ⟨rfl, hb1⟩
  have HB1 := Lib.hid hb1
  clear hb1
  go_wp2
  go_ret2
  exact ⟨_, rfl, Lk.Own.nil _ _, Below.call HB0.out HB1.out⟩
end Go.Proofs.YtmecohdedghiaaaGreatDoor
namespace Go.Proofs.YtmecohdedghiaaaGreatDoor
open Go.RowKit
set_option maxRecDepth 100000 in
set_option maxHeartbeats 8000000 in
theorem rspans_any (d : Dk) (v : Value) (ids : List Int) (w : World) (hd : d.In w w.heap.size) (hv : KI.IsL w w.heap.size v ids) (hl : ids.length ≤ 1000) : Calls Tryz.prog 88 #[d.v, v] w fun e w' => ∃ u, e = .returned (.tuple #[u, .int .i64 (spsE d ids)]) ∧ KS.Own w' w.heap.size u (spsL d ids) ∧ Below w.heap.size w w' := by
 have HD := Lib.hid hd
 have HV := Lib.hid hv
 have HC := Lib.hid (fun w h => rtable_any d w h)
 obtain ⟨⟨A, cap, rfl, _, _⟩, _, _⟩ := hv
 have HSE := Lib.hid (show spsE d ids = if zchk d = 0 then (if ids.all (inR d) = true then 0 else 3) else zchk d from rfl)
 have HSL := Lib.hid (show spsL d ids = if spsE d ids = 0 then ids.map (spA d) else [] from rfl)
 have HTL := Lib.hid (show (tabV d).length ≤ 49152 by
  unfold tabV
  by_cases e : zchk d = 0
  ·rw [if_pos e, pairs_len, tab_len0]
   have := parts_len d
   unfold partsK at this
   rw [if_pos (zchk_d d e)] at this
   exact this
  ·rw [if_neg e]; exact Nat.zero_le _)
 obtain ⟨w0, hw0⟩ : ∃ w0, w0 = w.alloc (.cells #[.slice d.bA d.bn d.bc, .slice d.pA d.pn d.pc, .slice d.rA d.rn d.rc, .int .i64 d.arms] 26) := ⟨_, rfl⟩
 have HB0 := Lib.hid (show Below w.heap.size w w0 by rw [hw0]; exact Below.al (Below.refl _ _) _)
 have HD0 := Lib.hid (HD.out.then HB0.out)
 generalize spsL d ids = SL at *
 generalize spsE d ids = SE at *
 by_cases hz : zchk d = 0
 ·have HGD := Lib.hid (fun id hr => spA_good d HD.out hz id hr)
  have HSE := Lib.hid (HSE.out.trans (if_pos hz))
  have HIR := Lib.hid (fun id => show inR d id = decide (0 ≤ id ∧ id < (tabV d).length) from rfl)
  have HSA := Lib.hid (fun id => show spA d id = (tabV d).getD id.toNat (0, 0) from rfl)
  rw [hz] at HC
  clear hz hd
  generalize tabV d = TV at *
  go_enter Tryz.func88, Tryz.ntmps88
  go_wp2_with fail
  rw [← hw0]
  clear hw0
  refine (HC.out _ HD0.out).mono ?_
  rintro e w1 ⟨tv, rfl, hown1, hb1⟩
  have HB1 := Lib.hid hb1
  have HIL := Lib.hid (hown1.isL (by have := HTL.out; omega))
  clear hb1 hown1
  obtain ⟨TA, tcap, rfl⟩ : ∃ A cap, tv = .slice A TV.length cap := by
   obtain ⟨⟨A, cap, h, _⟩, _⟩ := HIL.out
   exact ⟨A, cap, h⟩
  go_wp2_with fail
  go_loopw [8, 9] (fun u i wr => ∃ k : Nat, k ≤ ids.length ∧ i = .int .i64 k ∧ (ids.take k).all (inR d) = true ∧ KS.Own wr w1.heap.size u ((ids.take k).map (spA d)) ∧ Below w1.heap.size w1 wr) (fun _ i _ => ids.length - (intOf i).toNat)
  case atStart => exact ⟨0, Nat.zero_le _, rfl, rfl, Lk.Own.nil _ _, Below.refl _ _⟩
  case round =>
   obtain ⟨k, hk, rfl, hall, hown, hbl⟩ := hrel
   have HO := Lib.hid hown
   have HB := Lib.hid hbl
   have HA := Lib.hid hall
   have htl := HTL.out
   clear hown hbl hall
   by_cases hlt : k < ids.length
   ·have HVr := Lib.hid (HV.out.below (HB0.out.trans ((Below.call HB1.out HB.out).mono HB0.out.size)))
    obtain ⟨b, off, cap', hv', _, hb', _, hcell, hfit⟩ := KI.cells HVr.out (by omega)
    obtain ⟨rfl, rfl⟩ : A = some ⟨b, off, none⟩ ∧ cap' = cap := by cases hv'; exact ⟨rfl, rfl⟩
    have ck := hcell k hlt
    have fk := hfit k hlt
    have HAT := Lib.hid (fun h => all_take ids (inR d) k hlt HA.out h)
    have HAH := Lib.hid (fun h => all_hit ids (inR d) k hlt h)
    have HMT := Lib.hid (map_take1 ids (spA d) k hlt)
    have HLN := Lib.hid (show ((ids.take k).map (spA d)).length = k by simp; omega)
    clear hv' hcell hfit
    obtain ⟨x, hx⟩ : ∃ x, x = ids.getD k 0 := ⟨_, rfl⟩
    rw [← hx] at ck fk HAT HAH HMT
    clear hx
    generalize (ids.take k).map (spA d) = L at *
    unfold fits at fk
    by_cases hx0 : x < 0
    ·have hr' : inR d x = false := by rw [HIR.out, decide_eq_false_iff_not]; omega
     have hE : SE = 3 := by rw [HSE.out, HAH.out hr']; rfl
     have hS : SL = [] := by rw [HSL.out, hE]; rfl
     subst hE hS
     clear hr'
     go_wp2
     go_ret2
     exact ⟨_, rfl, Lk.Own.nil _ _, Below.call HB0.out (Below.call HB1.out HB.out)⟩
    ·obtain ⟨n, rfl⟩ : ∃ n : Nat, x = (n : Int) := ⟨x.toNat, by omega⟩
     by_cases hn : n < TV.length
     ·have hr : inR d n = true := by rw [HIR.out, decide_eq_true_iff]; omega
      have hg := HGD.out n hr
      have HA1 := Lib.hid (HAT.out hr)
      have hsa := HSA.out n
      rw [Int.toNat_natCast] at hsa
      obtain ⟨tb, toff, rfl, htb, htc, htcell⟩ := span_cells (HIL.out.below HB.out) (by omega)
      obtain ⟨e1, e2⟩ := htcell n hn
      rw [← hsa] at e1 e2
      clear htcell hsa
      generalize spA d n = t at *
      obtain ⟨t1, t2⟩ := t
      dsimp only at *
      have HOKT := Lib.hid (show KS.ok (t1, t2) from ⟨show fits t1 by unfold fits; omega, show fits t2 by unfold fits; omega⟩)
      clear hr hg hx0
      go_wp2_with (at_builtin; refine Lk.wpList_app (K := KS) _ rfl _ _ rfl rfl w1.heap.size (wr.heap.size + 1) _ _ L [(t1, t2)] rfl rfl (HO.out.alloc _) (Lk.IsL.lit (K := KS) _ (t1, t2) _ HOKT.out rfl wr.heap.size rfl) ?c1 ?c2 ?_)
      case c1 => have := HLN.out; simp; omega
      case c2 => have := HB.out.size; simp; omega
      intro v9 w9 hown hgrow _
      have HO9 := Lib.hid hown
      have HB9 := Lib.hid (Lk.Own.grow' (HO.out.alloc (.cells #[.int .i64 t1, .int .i64 t2] 134)) (Below.al HB.out _) (by have := HB.out.size; simp; omega) hgrow)
      clear hown hgrow
      go_wp2
      go_roundw
      case rel => exact ⟨k + 1, by omega, num_i (by omega), HA1.out, by rw [HMT.out]; exact HO9.out, HB9.out⟩
      case measure => simp [intOf]; omega
     ·have hr' : inR d n = false := by rw [HIR.out, decide_eq_false_iff_not]; omega
      have hE : SE = 3 := by rw [HSE.out, HAH.out hr']; rfl
      have hS : SL = [] := by rw [HSL.out, hE]; rfl
      subst hE hS
      clear hr'
      go_wp2
      go_ret2
      exact ⟨_, rfl, Lk.Own.nil _ _, Below.call HB0.out (Below.call HB1.out HB.out)⟩
   ·obtain rfl : k = ids.length := by omega
    rw [List.take_length] at HA HO
    have hE : SE = 0 := by rw [HSE.out, if_pos HA.out]
    have hS : SL = ids.map (spA d) := by rw [HSL.out, if_pos hE]
    rw [← hS] at HO
    subst hE
    clear hS
    go_wp2
    go_ret2
    exact ⟨_, rfl, HO.out.mono (Nat.le_trans HB0.out.size HB1.out.size), Below.call HB0.out (Below.call HB1.out HB.out)⟩
 ·have hE : SE = zchk d := by rw [HSE.out, if_neg hz]
  have hS : SL = [] := by rw [HSL.out, if_neg (by rw [hE]; exact hz)]
  have hz' : (zchk d != 0) = true := by rw [bne_iff_ne]; exact hz
  subst hE hS
  clear HSE HSL hz hd
  generalize zchk d = c at *
  go_enter Tryz.func88, Tryz.ntmps88
  go_wp2_with fail
  rw [← hw0]
  clear hw0
  refine (HC.out _ HD0.out).mono ?_
  rintro e w1 ⟨tv, rfl, _, hb1⟩
  have HB1 := Lib.hid hb1
  clear hb1
  go_wp2
  go_ret2
  exact ⟨_, rfl, Lk.Own.nil _ _, Below.call HB0.out HB1.out⟩
/-- The ids of lanes. -/
def lanesI (F : Int) (lo n : Nat) : List Int := (List.range n).map fun i : Nat => F + ((lo : Int) + (i : Int))
noncomputable def frst (d : Dk) : Int := (cntV d).1 + (cntV d).2.1
theorem frst_bd (d : Dk) : 0 ≤ (cntV d).1 ∧ (cntV d).1 ≤ 384 ∧ 0 ≤ (cntV d).2.1 ∧ (cntV d).2.1 ≤ 384 ∧ -1 ≤ (cntV d).2.2 ∧ (cntV d).2.2 ≤ 1000 := by
 unfold cntV
 by_cases hz : dchk d = 0
 ·have hok := dchk_ok d hz
  have h1 := wells_nn d.pl fun i hi => plate_size (hok.pl i hi)
  have h2 := tips_nn d.rl fun i hi => hok.rl i hi
  have h3 := hok.wells
  have h4 := hok.tips
  have h5 := hok.rise.most
  rw [if_pos hz]
  dsimp only
  omega
 ·rw [if_neg hz]; decide
set_option maxRecDepth 100000 in
set_option maxHeartbeats 4000000 in
theorem rfirst_any (d : Dk) (w : World) (hd : d.In w w.heap.size) : Calls Tryz.prog 152 #[d.v] w fun e w' => e = .returned (.int .i64 (frst d)) ∧ Below w.heap.size w w' := by
 have HC := Lib.hid (rcounts_any d (w.alloc (.cells #[.slice d.bA d.bn d.bc, .slice d.pA d.pn d.pc, .slice d.rA d.rn d.rc, .int .i64 d.arms] 26)) (hd.then (Below.al (Below.refl _ _) _)))
 obtain ⟨b1, b2, b3, b4, _, _⟩ := frst_bd d
 unfold frst
 generalize cntV d = c at *
 obtain ⟨c1, c2, c3⟩ := c
 dsimp only at *
 clear hd
 go_enter Tryz.func152, Tryz.ntmps152
 go_wp2_with fail
 refine HC.out.mono ?_
 rintro e w1 ⟨rfl, hb1⟩
 have HB1 := Lib.hid (Below.call (Below.al (Below.refl _ _) (.cells #[.slice d.bA d.bn d.bc, .slice d.pA d.pn d.pc, .slice d.rA d.rn d.rc, .int .i64 d.arms] 26)) hb1)
 clear hb1
 go_wp2
 go_ret
 exact ⟨rfl, HB1.out⟩
theorem lanes_snoc (F : Int) (lo i : Nat) : lanesI F lo (i + 1) = lanesI F lo i ++ [F + ((lo : Int) + (i : Int))] := by
 unfold lanesI
 rw [List.range_succ, List.map_append]
 rfl
theorem lanes_len (F : Int) (lo i : Nat) : (lanesI F lo i).length = i := by unfold lanesI; simp
set_option maxRecDepth 100000 in
set_option maxHeartbeats 8000000 in
theorem rlanes_any (d : Dk) (lo hi : Nat) (h1 : lo ≤ hi) (h2 : hi ≤ 23) (w : World) (hd : d.In w w.heap.size) : Calls Tryz.prog 89 #[d.v, .agg #[.int .i64 lo, .int .i64 hi]] w fun e w' => ∃ u, e = .returned u ∧ KI.Own w' w.heap.size u (lanesI (frst d) lo (hi + 1 - lo)) ∧ Below w.heap.size w w' := by
 obtain ⟨n, rfl⟩ : ∃ n, hi = lo + n := ⟨hi - lo, by omega⟩
 rw [show lo + n + 1 - lo = n + 1 by omega, show ((lo + n : Nat) : Int) = (lo : Int) + n from Int.natCast_add lo n]
 have HD := Lib.hid hd
 have HFI := Lib.hid (fun w h => rfirst_any d w h)
 have hF : 0 ≤ frst d ∧ frst d ≤ 768 := by have := frst_bd d; unfold frst; omega
 obtain ⟨w0, hw0⟩ : ∃ w0, w0 = (w.alloc (.cells #[.slice d.bA d.bn d.bc, .slice d.pA d.pn d.pc, .slice d.rA d.rn d.rc, .int .i64 d.arms] 26)).alloc (.cells #[.int .i64 lo, .int .i64 ((lo : Int) + n)] 134) := ⟨_, rfl⟩
 have HB0 := Lib.hid (show Below w.heap.size w w0 by rw [hw0]; exact Below.al (Below.al (Below.refl _ _) _) _)
 have HD0 := Lib.hid (HD.out.then HB0.out)
 have HF := Lib.hid (show ∀ w1, Below w0.heap.size w0 w1 → (w1.cell? ⟨w.heap.size, 0, none⟩ = some (.slice d.bA d.bn d.bc) ∧ w1.cell? ⟨w.heap.size, 1, none⟩ = some (.slice d.pA d.pn d.pc) ∧ w1.cell? ⟨w.heap.size, 2, none⟩ = some (.slice d.rA d.rn d.rc) ∧ w1.cell? ⟨w.heap.size, 3, none⟩ = some (.int .i64 d.arms) ∧ w1.cell? ⟨w.heap.size + 1, 0, none⟩ = some (.int .i64 lo) ∧ w1.cell? ⟨w.heap.size + 1, 1, none⟩ = some (.int .i64 ((lo : Int) + n))) from by
   intro w1 hb
   refine ⟨keep_cell hb ?_, keep_cell hb ?_, keep_cell hb ?_, keep_cell hb ?_, keep_cell hb ?_, keep_cell hb ?_⟩
   all_goals (rw [hw0]; simp [go_sem]))
 generalize frst d = F at *
 clear hd
 go_enter Tryz.func89, Tryz.ntmps89
 go_wp2_with fail
 rw [← hw0]
 clear hw0
 go_loopw [5, 6] (fun u l wr => ∃ k : Nat, k ≤ n + 1 ∧ l = .int .i64 ((lo : Int) + k) ∧ KI.Own wr w0.heap.size u (lanesI F lo k) ∧ Below w0.heap.size w0 wr) (fun _ l _ => lo + n + 1 - (intOf l).toNat)
 case atStart => exact ⟨0, Nat.zero_le _, by simp, Lk.Own.nil _ _, Below.refl _ _⟩
 case round =>
  obtain ⟨k, hk, rfl, hown, hbl⟩ := hrel
  have HO := Lib.hid hown
  have HB := Lib.hid hbl
  clear hown hbl
  obtain ⟨d0, d1, d2, d3, s0, s1⟩ := HF.out wr HB.out
  by_cases hlt : k ≤ n
  ·have HI := Lib.hid (HFI.out wr (HD0.out.then HB.out))
   have HS := Lib.hid (lanes_snoc F lo k)
   have HLN := Lib.hid (lanes_len F lo k)
   generalize lanesI F lo k = L at *
   go_wp2_with fail
   refine HI.out.mono ?_
   rintro e w6 ⟨rfl, hb6⟩
   have HO6 := Lib.hid (HO.out.below hb6)
   have HB6 := Lib.hid (Below.call HB.out hb6)
   clear hb6 d0 d1 d2 d3 s0 s1
   go_wp2_with (at_builtin; refine Lk.wpList_app (K := KI) _ rfl _ _ rfl rfl w0.heap.size (w6.heap.size + 1) _ _ L [F + ((lo : Int) + (k : Int))] rfl rfl (HO6.out.alloc _) (Lk.IsL.lit (K := KI) _ (F + ((lo : Int) + (k : Int))) _ (show fits _ by unfold fits; omega) (by simp [KI]) w6.heap.size rfl) ?c1 ?c2 ?_)
   case c1 => have := HLN.out; simp; omega
   case c2 => have := HB6.out.size; simp; omega
   intro v9 w9 hown hgrow _
   have HO9 := Lib.hid hown
   have HB9 := Lib.hid (Lk.Own.grow' (HO6.out.alloc _) (Below.al HB6.out _) (by have := HB6.out.size; simp; omega) hgrow)
   clear hown hgrow
   go_wp2
   go_roundw
   case rel => exact ⟨k + 1, by omega, num_i (by omega), by rw [HS.out]; exact HO9.out, HB9.out⟩
   case measure => simp [intOf]; omega
  ·obtain rfl : k = n + 1 := by omega
   go_wp2
   go_ret
   exact ⟨_, rfl, HO.out.mono HB0.out.size, Below.call HB0.out HB.out⟩
end Go.Proofs.YtmecohdedghiaaaGreatDoor
namespace Go.Proofs.YtmecohdedghiaaaGreatDoor
open Go.RowKit
theorem two_of {w : World} {B : Nat} {v : Value} {xs : List Int} (h : KI.IsL w B v xs) : Two.IsL w B v xs := by
 obtain ⟨⟨A, cap, hv, hc, hA⟩, hf, hl⟩ := h
 refine ⟨⟨A, cap, hv, hc, fun h0 => ?_⟩, hf, hl⟩
 obtain ⟨b, off, e, hb, hcell⟩ := hA h0
 refine ⟨b, off, e, hb, fun i hi => ?_⟩
 have := hcell i hi 0 (.int .i64 (xs.getD i 0)) rfl
 simpa [KI] using this
theorem of_two {w : World} {B : Nat} {v : Value} {xs : List Int} (h : Two.IsL w B v xs) : KI.IsL w B v xs := by
 obtain ⟨⟨A, cap, hv, hc, hA⟩, hf, hl⟩ := h
 refine ⟨⟨A, cap, hv, hc, fun h0 => ?_⟩, hf, hl⟩
 obtain ⟨b, off, e, hb, hcell⟩ := hA h0
 refine ⟨b, off, e, hb, fun i hi j u hu => ?_⟩
 have hj : j = 0 := by
  have := (List.getElem?_eq_some_iff.1 hu).1
  simp [KI] at this
  exact this
 subst hj
 have e2 : u = .int .i64 (xs.getD i 0) := by
  simp [KI] at hu
  rw [← hu]
  rfl
 subst e2
 have := hcell i hi
 simpa [KI] using this
set_option maxRecDepth 100000 in
set_option maxHeartbeats 4000000 in
theorem len_small (lo n : Nat) (h2 : lo + n ≤ 23) (w : World) : Calls Tryz.prog 207 #[.agg #[.int .i64 lo, .int .i64 ((lo : Int) + n)]] w fun e w' => e = .returned (.int .i64 ((n : Int) + 1)) ∧ Below w.heap.size w w' := by
 have HE := Lib.hid (fun w => show Calls Tryz.prog 208 #[.agg #[.int .i64 lo, .int .i64 ((lo : Int) + n)]] w fun e w' => e = .returned (.bool false) ∧ Below w.heap.size w w' by
  have := Sp.empty_any lo ((lo : Int) + n) w
  rwa [show decide ((lo : Int) + n < lo) = false from decide_eq_false (by omega)] at this)
 go_enter Tryz.func207, Tryz.ntmps207
 go_wp2_with fail
 refine (HE.out _).mono ?_
 rintro e w1 ⟨rfl, hb1⟩
 have c0 : w1.cell? ⟨w.heap.size, 0, none⟩ = some (.int .i64 lo) := keep_cell hb1 (by simp)
 have c1 : w1.cell? ⟨w.heap.size, 1, none⟩ = some (.int .i64 ((lo : Int) + n)) := keep_cell hb1 (by simp)
 have HB1 := Lib.hid (Below.call (Below.al (Below.refl _ _) (.cells #[.int .i64 lo, .int .i64 ((lo : Int) + n)] 134)) hb1)
 clear hb1
 go_wp2
 go_ret
 exact ⟨ret_i (by omega), HB1.out⟩
set_option maxRecDepth 100000 in
set_option maxHeartbeats 8000000 in
theorem lanes_any (d : Dk) (lo hi : Nat) (h1 : lo ≤ hi) (h2 : hi ≤ 23) (w : World) (hd : d.In w w.heap.size) : Calls Tryz.prog 146 #[d.v, .agg #[.int .i64 lo, .int .i64 hi]] w fun e w' => ∃ u, e = .returned u ∧ KI.Own w' w.heap.size u (lanesI (frst d) lo (hi + 1 - lo)) ∧ Below w.heap.size w w' := by
 obtain ⟨n, rfl⟩ : ∃ n, hi = lo + n := ⟨hi - lo, by omega⟩
 rw [show lo + n + 1 - lo = n + 1 by omega, show ((lo + n : Nat) : Int) = (lo : Int) + n from Int.natCast_add lo n]
 have HD := Lib.hid hd
 have HCT := Lib.hid (fun w h => counts_any d w h)
 have HLE := Lib.hid (fun w => len_small lo n h2 w)
 obtain ⟨b1, b2, b3, b4, b5, b6⟩ := frst_bd d
 unfold frst
 obtain ⟨w0, hw0⟩ : ∃ w0, w0 = (w.alloc (.cells #[.slice d.bA d.bn d.bc, .slice d.pA d.pn d.pc, .slice d.rA d.rn d.rc, .int .i64 d.arms] 26)).alloc (.cells #[.int .i64 lo, .int .i64 ((lo : Int) + n)] 134) := ⟨_, rfl⟩
 have HB0 := Lib.hid (show Below w.heap.size w w0 by rw [hw0]; exact Below.al (Below.al (Below.refl _ _) _) _)
 have HD0 := Lib.hid (HD.out.then HB0.out)
 have HF := Lib.hid (show ∀ w1, Below w0.heap.size w0 w1 → (w1.cell? ⟨w.heap.size + 1, 0, none⟩ = some (.int .i64 lo) ∧ w1.cell? ⟨w.heap.size + 1, 1, none⟩ = some (.int .i64 ((lo : Int) + n))) from by
   intro w1 hb
   refine ⟨keep_cell hb ?_, keep_cell hb ?_⟩
   all_goals (rw [hw0]; simp [go_sem]))
 generalize cntV d = c at *
 obtain ⟨c1, c2, c3⟩ := c
 dsimp only at *
 clear hd
 go_enter Tryz.func146, Tryz.ntmps146
 go_wp2_with fail
 rw [← hw0]
 clear hw0
 refine (HCT.out _ HD0.out).mono ?_
 rintro e w1 ⟨rfl, hb1⟩
 obtain ⟨s0, s1⟩ := HF.out w1 hb1
 have HB1 := Lib.hid hb1
 clear hb1
 go_wp2_with fail
 refine (HLE.out _).mono ?_
 rintro e w2 ⟨rfl, hb2⟩
 obtain ⟨s0', s1'⟩ := HF.out w2 (Below.call HB1.out hb2)
 have HB2 := Lib.hid (Below.call HB1.out hb2)
 clear hb2 s0 s1 s0' s1'
 obtain ⟨i0, hi, hz0, hz1, hz2⟩ := info_parts KI.info
 obtain ⟨w3, hmk, hown, hgr⟩ := run_make_own (P := Tryz.prog) w2 w2.heap.size 27 3 i0 _ 1 Tryz.underlying27 hi hz0 hz1 .i64 .i64 (n + 1) (by rw [hz2]; show 8 * (n + 1) ≤ _; omega) (by unfold maxLen; omega) (Nat.le_refl _)
 rw [show ((n + 1 : Nat) : Int) = (n : Int) + 1 from rfl] at hmk
 have HO3 := Lib.hid (show KI.Own w3 w2.heap.size (.slice (some ⟨w2.heap.size, 0, none⟩) 0 (n + 1)) [] from ⟨hown, fun x hx => by simp at hx⟩)
 have HB3 := Lib.hid (show Below w2.heap.size w2 w3 from (Below.refl _ _).grown hgr (Nat.le_refl _) (fun k hk => by cases hk))
 clear hown hgr hi hz0 hz1 hz2
 obtain ⟨s0, s1⟩ := HF.out w3 (Below.call HB2.out HB3.out)
 go_wp2_with fail
 obtain ⟨u0, hu0⟩ : ∃ u0, u0 = Value.slice (some ⟨w2.heap.size, 0, none⟩) 0 (n + 1) := ⟨_, rfl⟩
 rw [← hu0] at HO3
 clear hmk s0 s1
 go_loopw [8, 9] (fun u l wr => ∃ k : Nat, k ≤ n + 1 ∧ l = .int .i64 ((lo : Int) + k) ∧ KI.Own wr w2.heap.size u (lanesI (c1 + c2) lo k) ∧ Below w2.heap.size w2 wr) (fun _ l _ => lo + n + 1 - (intOf l).toNat)
 case atStart => exact ⟨0, Nat.zero_le _, by simp, by rw [← hu0]; exact HO3.out, HB3.out⟩
 case round =>
  obtain ⟨k, hk, rfl, hown, hbl⟩ := hrel
  have HO := Lib.hid hown
  have HB := Lib.hid hbl
  clear hown hbl HO3 hu0
  obtain ⟨s0, s1⟩ := HF.out wr (Below.call HB2.out HB.out)
  by_cases hlt : k ≤ n
  ·have HS := Lib.hid (lanes_snoc (c1 + c2) lo k)
   have HLN := Lib.hid (lanes_len (c1 + c2) lo k)
   generalize lanesI (c1 + c2) lo k = L at *
   go_wp2_with (at_builtin; refine Lk.wpList_app (K := KI) _ rfl _ _ rfl rfl w2.heap.size (wr.heap.size + 1) _ _ L [c1 + c2 + ((lo : Int) + (k : Int))] rfl rfl (HO.out.alloc _) (Lk.IsL.lit (K := KI) _ (c1 + c2 + ((lo : Int) + (k : Int))) _ (show fits _ by unfold fits; omega) (by simp [KI]) wr.heap.size rfl) ?c1 ?c2 ?_)
   case c1 => have := HLN.out; simp; omega
   case c2 => have := HB.out.size; simp; omega
   intro v9 w9 hown hgrow _
   have HO9 := Lib.hid hown
   have HB9 := Lib.hid (Lk.Own.grow' (HO.out.alloc _) (Below.al HB.out _) (by have := HB.out.size; simp; omega) hgrow)
   clear hown hgrow
   go_wp2
   go_roundw
   case rel => exact ⟨k + 1, by omega, num_i (by omega), by rw [HS.out]; exact HO9.out, HB9.out⟩
   case measure => simp [intOf]; omega
  ·obtain rfl : k = n + 1 := by omega
   go_wp2
   go_ret
   exact ⟨_, rfl, HO.out.mono (Nat.le_trans HB0.out.size HB2.out.size), Below.call HB0.out (Below.call HB2.out HB.out)⟩
end Go.Proofs.YtmecohdedghiaaaGreatDoor
namespace Go.Proofs.YtmecohdedghiaaaGreatDoor
open Go.RowKit
noncomputable def lanP (d : Dk) (p : Int × Int) : List Int := lanesI (frst d) p.1.toNat (p.2.toNat + 1 - p.1.toNat)
noncomputable def foldS (d : Dk) (l : List (Int × Int)) : List Int := l.foldl (fun s p => Two.mk (s ++ lanP d p)) []
noncomputable def setV (d : Dk) (ids : List Int) : List Int := foldS d (spsL d ids)
theorem sps_good (d : Dk) {w : World} (hd : d.In w w.heap.size) (ids : List Int) : ∀ p ∈ spsL d ids, 0 ≤ p.1 ∧ p.1 ≤ p.2 ∧ p.2 ≤ 23 := by
 intro p hp
 unfold spsL at hp
 by_cases he : spsE d ids = 0
 ·rw [if_pos he] at hp
  obtain ⟨x, hx, rfl⟩ := List.mem_map.1 hp
  unfold spsE at he
  by_cases hz : zchk d = 0
  ·rw [if_pos hz] at he
   by_cases ha : ids.all (inR d) = true
   ·exact spA_good d hd hz x (List.all_eq_true.1 ha x hx)
   ·rw [if_neg ha] at he; exact absurd he (by decide)
  ·rw [if_neg hz] at he; exact absurd he hz
 ·rw [if_neg he] at hp; cases hp
theorem sps_len (d : Dk) (ids : List Int) : (spsL d ids).length ≤ ids.length := by
 unfold spsL
 split
 ·simp
 ·simp
theorem lanes_inc (F : Int) (lo n : Nat) : Two.Inc (lanesI F lo n) := by
 unfold Two.Inc lanesI
 rw [List.pairwise_map]
 exact List.pairwise_lt_range.imp fun h => by omega
theorem lanes_mem (F : Int) (lo n : Nat) : ∀ x ∈ lanesI F lo n, F + lo ≤ x ∧ x < F + lo + n := by
 intro x hx
 unfold lanesI at hx
 obtain ⟨i, hi, rfl⟩ := List.mem_map.1 hx
 have := List.mem_range.1 hi
 omega
theorem inc_len (xs : List Int) : ∀ (a : Int) (n : Nat), Two.Inc xs → (∀ x ∈ xs, a ≤ x ∧ x < a + n) → xs.length ≤ n := by
 induction xs with
 | nil => intro a n _ _; exact Nat.zero_le _
 | cons x r ih =>
  intro a n hi hm
  obtain ⟨h1, h2⟩ := Two.inc_cons.1 hi
  have hx := hm x (by simp)
  have := ih (x + 1) (a + n - (x + 1)).toNat h2 fun y hy => by
   have := h1 y hy
   have := hm y (by simp [hy])
   omega
  rw [List.length_cons]
  omega
theorem fold_good (d : Dk) (l : List (Int × Int)) (h : ∀ p ∈ l, 0 ≤ p.1 ∧ p.1 ≤ p.2 ∧ p.2 ≤ 23) : Two.Inc (foldS d l) ∧ ∀ x ∈ foldS d l, frst d ≤ x ∧ x < frst d + 24 := by
 unfold foldS
 suffices ∀ s : List Int, (Two.Inc s ∧ ∀ x ∈ s, frst d ≤ x ∧ x < frst d + 24) → Two.Inc (l.foldl (fun s p => Two.mk (s ++ lanP d p)) s) ∧ ∀ x ∈ l.foldl (fun s p => Two.mk (s ++ lanP d p)) s, frst d ≤ x ∧ x < frst d + 24 from this [] ⟨Two.inc_nil, fun x hx => by cases hx⟩
 induction l with
 | nil => intro s hs; exact hs
 | cons p l ih =>
  intro s hs
  rw [List.foldl_cons]
  refine ih (fun q hq => h q (by simp [hq])) _ ⟨Two.inc_mk _, fun x hx => ?_⟩
  rw [Two.mem_mk] at hx
  rcases List.mem_append.1 hx with hx | hx
  ·exact hs.2 x hx
  ·have h0 := h p (by simp)
   have := lanes_mem _ _ _ x hx
   omega
theorem fold_len (d : Dk) (l : List (Int × Int)) (h : ∀ p ∈ l, 0 ≤ p.1 ∧ p.1 ≤ p.2 ∧ p.2 ≤ 23) : (foldS d l).length ≤ 24 := by
 obtain ⟨h1, h2⟩ := fold_good d l h
 exact inc_len _ (frst d) 24 h1 h2
theorem fold_snoc (d : Dk) (l : List (Int × Int)) (k : Nat) (hk : k < l.length) : foldS d (l.take (k + 1)) = Two.mk (foldS d (l.take k) ++ lanP d (l.getD k (0, 0))) := by
 rw [take_snoc l k (0, 0) hk]
 unfold foldS
 rw [List.foldl_append]
 rfl
theorem spsE_0 (d : Dk) (ids : List Int) (h : spsE d ids ≠ 0) : spsL d ids = [] := by unfold spsL; rw [if_neg h]
set_option maxRecDepth 100000 in
set_option maxHeartbeats 8000000 in
theorem needs_any (d : Dk) (v : Value) (ids : List Int) (w : World) (hd : d.In w w.heap.size) (hv : KI.IsL w w.heap.size v ids) (hl : ids.length ≤ 1000) : Calls Tryz.prog 80 #[d.v, v] w fun e w' => ∃ u, e = .returned (.tuple #[u, .int .i64 (spsE d ids)]) ∧ KI.IsL w' w'.heap.size u (setV d ids) ∧ Below w.heap.size w w' := by
 have HD := Lib.hid hd
 have HSP := Lib.hid (fun w h1 h2 => spans_any d v ids w h1 h2 hl)
 have HV := Lib.hid hv
 have HGD := Lib.hid (sps_good d hd ids)
 have HLN := Lib.hid (sps_len d ids)
 have HE0 := Lib.hid (spsE_0 d ids)
 have HST := Lib.hid (show setV d ids = foldS d (spsL d ids) from rfl)
 obtain ⟨w0, hw0⟩ : ∃ w0, w0 = w.alloc (.cells #[.slice d.bA d.bn d.bc, .slice d.pA d.pn d.pc, .slice d.rA d.rn d.rc, .int .i64 d.arms] 26) := ⟨_, rfl⟩
 have HB0 := Lib.hid (show Below w.heap.size w w0 by rw [hw0]; exact Below.al (Below.refl _ _) _)
 have HD0 := Lib.hid (HD.out.then HB0.out)
 have hsz0 : w.heap.size < w0.heap.size := by rw [hw0]; simp
 have HF := Lib.hid (show ∀ w1, Below w0.heap.size w0 w1 → (w1.cell? ⟨w.heap.size, 0, none⟩ = some (.slice d.bA d.bn d.bc) ∧ w1.cell? ⟨w.heap.size, 1, none⟩ = some (.slice d.pA d.pn d.pc) ∧ w1.cell? ⟨w.heap.size, 2, none⟩ = some (.slice d.rA d.rn d.rc) ∧ w1.cell? ⟨w.heap.size, 3, none⟩ = some (.int .i64 d.arms)) from by
   intro w1 hb
   refine ⟨keep_cell hb ?_, keep_cell hb ?_, keep_cell hb ?_, keep_cell hb ?_⟩
   all_goals (rw [hw0]; simp))
 rw [HST.out]
 clear HST hd hv
 generalize spsL d ids = SL at *
 generalize spsE d ids = SE at *
 by_cases hz : SE = 0
 ·subst hz
  go_enter Tryz.func80, Tryz.ntmps80
  go_wp2_with fail
  rw [← hw0]
  clear hw0
  refine (HSP.out w0 HD0.out (HV.out.then HB0.out)).mono ?_
  rintro e w1 ⟨tv, rfl, hown1, hb1⟩
  have HB1 := Lib.hid hb1
  have HIL := Lib.hid (hown1.isL (by have := HLN.out; omega))
  clear hb1 hown1
  obtain ⟨TA, tcap, rfl⟩ : ∃ A cap, tv = .slice A SL.length cap := by
   obtain ⟨⟨A, cap, h, _⟩, _⟩ := HIL.out
   exact ⟨A, cap, h⟩
  go_wp2_with fail
  go_loopw [8, 22] (fun u i wr => ∃ k : Nat, k ≤ SL.length ∧ i = .int .i64 k ∧ KI.IsL wr wr.heap.size u (foldS d (SL.take k)) ∧ Below w1.heap.size w1 wr) (fun _ i _ => SL.length - (intOf i).toNat)
  case atStart => exact ⟨0, Nat.zero_le _, rfl, Lk.IsL.nil _ _ _ _, Below.refl _ _⟩
  case round =>
   obtain ⟨k, hk, rfl, hil, hbl⟩ := hrel
   have HU := Lib.hid hil
   have HB := Lib.hid hbl
   have hln := HLN.out
   clear hil hbl
   by_cases hlt : k < SL.length
   ·obtain ⟨tb, toff, rfl, htb, htc, htcell⟩ := span_cells (HIL.out.below HB.out) (by omega)
    obtain ⟨e1, e2⟩ := htcell k hlt
    obtain ⟨d0, d1, d2, d3⟩ := HF.out wr (Below.call HB1.out HB.out)
    have hsw : w.heap.size < wr.heap.size := Nat.lt_of_lt_of_le hsz0 (Below.call HB1.out HB.out).size
    have hg := HGD.out _ (getD_mem' SL k (0, 0) hlt)
    have HFS := Lib.hid (fold_snoc d SL k hlt)
    have HGK := Lib.hid (fold_good d (SL.take k) fun p hp => HGD.out p (List.mem_of_mem_take hp))
    have HLK := Lib.hid (fold_len d (SL.take k) fun p hp => HGD.out p (List.mem_of_mem_take hp))
    have hlp : lanP d (SL.getD k (0, 0)) = lanesI (frst d) (SL.getD k (0, 0)).1.toNat ((SL.getD k (0, 0)).2.toNat + 1 - (SL.getD k (0, 0)).1.toNat) := rfl
    rw [hlp] at HFS
    clear htcell hlp
    generalize SL.getD k (0, 0) = t at *
    obtain ⟨t1, t2⟩ := t
    dsimp only at *
    obtain ⟨lo, rfl⟩ : ∃ lo : Nat, t1 = (lo : Int) := ⟨t1.toNat, by omega⟩
    obtain ⟨hi, rfl⟩ : ∃ hi : Nat, t2 = (hi : Int) := ⟨t2.toNat, by omega⟩
    simp only [Int.toNat_natCast] at HFS
    obtain ⟨w5, hw5⟩ : ∃ w5, w5 = wr.alloc (.cells #[.int .i64 lo, .int .i64 hi] 134) := ⟨_, rfl⟩
    have HB5 := Lib.hid (show Below w1.heap.size w1 w5 by rw [hw5]; exact Below.al HB.out _)
    have HU5 := Lib.hid (show KI.IsL w5 w5.heap.size u8 (foldS d (SL.take k)) by rw [hw5]; exact HU.out.then (Below.al (Below.refl _ _) _))
    have HLA := Lib.hid (lanes_any d lo hi (by omega) (by omega) w5 (HD0.out.then (Below.call HB1.out HB5.out)))
    have HLI := Lib.hid (lanes_inc (frst d) lo (hi + 1 - lo))
    have HLL := Lib.hid (lanes_len (frst d) lo (hi + 1 - lo))
    generalize lanesI (frst d) lo (hi + 1 - lo) = LL at *
    generalize foldS d (SL.take k) = S at *
    go_wp2_with fail
    rw [← hw5]
    clear hw5 d0 d1 d2 d3 e1 e2
    refine HLA.out.mono ?_
    rintro e w6 ⟨lv, rfl, hown6, hb6⟩
    have HIL6 := Lib.hid (hown6.isL (by have := HLL.out; omega))
    have HU6 := Lib.hid (HU5.out.then hb6)
    have HB6 := Lib.hid (Below.call HB5.out hb6)
    clear hown6 hb6
    go_wp2_with fail
    refine (Two.either_any _ _ S LL w6 (two_of HU6.out) (two_of HIL6.out) (by have := HLL.out; have := HLK.out; omega) HGK.out.1 HLI.out).mono ?_
    rintro e w7 ⟨nv, rfl, hnv, hb7⟩
    have HN7 := Lib.hid (of_two hnv)
    have HB7 := Lib.hid (Below.call HB6.out hb7)
    clear hnv hb7
    go_wp2
    go_roundw
    case rel => exact ⟨k + 1, by omega, num_i (by omega), by rw [HFS.out]; exact HN7.out, HB7.out⟩
    case measure => simp [intOf]; omega
   ·obtain rfl : k = SL.length := by omega
    rw [List.take_length] at HU
    go_wp2
    go_ret2
    exact ⟨_, rfl, HU.out, Below.call HB0.out (Below.call HB1.out HB.out)⟩
 ·have hS := HE0.out hz
  subst hS
  have hz' : (SE != 0) = true := by rw [bne_iff_ne]; exact hz
  clear hz
  go_enter Tryz.func80, Tryz.ntmps80
  go_wp2_with fail
  rw [← hw0]
  clear hw0
  refine (HSP.out w0 HD0.out (HV.out.then HB0.out)).mono ?_
  rintro e w1 ⟨tv, rfl, _, hb1⟩
  have HB1 := Lib.hid hb1
  clear hb1
  go_wp2
  go_ret2
  exact ⟨_, rfl, Lk.IsL.nil _ _ _ _, Below.call HB0.out HB1.out⟩
set_option maxRecDepth 100000 in
set_option maxHeartbeats 8000000 in
theorem rneeds_any (d : Dk) (v : Value) (ids : List Int) (w : World) (hd : d.In w w.heap.size) (hv : KI.IsL w w.heap.size v ids) (hl : ids.length ≤ 1000) : Calls Tryz.prog 46 #[d.v, v] w fun e w' => ∃ u, e = .returned (.tuple #[u, .int .i64 (spsE d ids)]) ∧ KI.IsL w' w'.heap.size u (setV d ids) ∧ Below w.heap.size w w' := by
 have HD := Lib.hid hd
 have HSP := Lib.hid (fun w h1 h2 => rspans_any d v ids w h1 h2 hl)
 have HV := Lib.hid hv
 have HGD := Lib.hid (sps_good d hd ids)
 have HLN := Lib.hid (sps_len d ids)
 have HST := Lib.hid (show setV d ids = foldS d (spsL d ids) from rfl)
 obtain ⟨w0, hw0⟩ : ∃ w0, w0 = w.alloc (.cells #[.slice d.bA d.bn d.bc, .slice d.pA d.pn d.pc, .slice d.rA d.rn d.rc, .int .i64 d.arms] 26) := ⟨_, rfl⟩
 have HB0 := Lib.hid (show Below w.heap.size w w0 by rw [hw0]; exact Below.al (Below.refl _ _) _)
 have HD0 := Lib.hid (HD.out.then HB0.out)
 have hsz0 : w.heap.size < w0.heap.size := by rw [hw0]; simp
 have HF := Lib.hid (show ∀ w1, Below w0.heap.size w0 w1 → (w1.cell? ⟨w.heap.size, 0, none⟩ = some (.slice d.bA d.bn d.bc) ∧ w1.cell? ⟨w.heap.size, 1, none⟩ = some (.slice d.pA d.pn d.pc) ∧ w1.cell? ⟨w.heap.size, 2, none⟩ = some (.slice d.rA d.rn d.rc) ∧ w1.cell? ⟨w.heap.size, 3, none⟩ = some (.int .i64 d.arms)) from by
   intro w1 hb
   refine ⟨keep_cell hb ?_, keep_cell hb ?_, keep_cell hb ?_, keep_cell hb ?_⟩
   all_goals (rw [hw0]; simp))
 rw [HST.out]
 clear HST hd hv
 generalize spsL d ids = SL at *
 generalize spsE d ids = SE at *
 go_enter Tryz.func46, Tryz.ntmps46
 go_wp2_with fail
 rw [← hw0]
 clear hw0
 refine (HSP.out w0 HD0.out (HV.out.then HB0.out)).mono ?_
 rintro e w1 ⟨tv, rfl, hown1, hb1⟩
 have HB1 := Lib.hid hb1
 have HIL := Lib.hid (hown1.isL (by have := HLN.out; omega))
 clear hb1 hown1
 obtain ⟨TA, tcap, rfl⟩ : ∃ A cap, tv = .slice A SL.length cap := by
  obtain ⟨⟨A, cap, h, _⟩, _⟩ := HIL.out
  exact ⟨A, cap, h⟩
 go_wp2_with fail
 go_loopw [8, 9] (fun u i wr => ∃ k : Nat, k ≤ SL.length ∧ i = .int .i64 k ∧ KI.IsL wr wr.heap.size u (foldS d (SL.take k)) ∧ Below w1.heap.size w1 wr) (fun _ i _ => SL.length - (intOf i).toNat)
 case atStart => exact ⟨0, Nat.zero_le _, rfl, Lk.IsL.nil _ _ _ _, Below.refl _ _⟩
 case round =>
  obtain ⟨k, hk, rfl, hil, hbl⟩ := hrel
  have HU := Lib.hid hil
  have HB := Lib.hid hbl
  have hln := HLN.out
  clear hil hbl
  by_cases hlt : k < SL.length
  ·obtain ⟨tb, toff, rfl, htb, htc, htcell⟩ := span_cells (HIL.out.below HB.out) (by omega)
   obtain ⟨e1, e2⟩ := htcell k hlt
   obtain ⟨d0, d1, d2, d3⟩ := HF.out wr (Below.call HB1.out HB.out)
   have hg := HGD.out _ (getD_mem' SL k (0, 0) hlt)
   have HFS := Lib.hid (fold_snoc d SL k hlt)
   have HLK := Lib.hid (fold_len d (SL.take k) fun p hp => HGD.out p (List.mem_of_mem_take hp))
   have HGK := Lib.hid (fold_good d (SL.take k) fun p hp => HGD.out p (List.mem_of_mem_take hp))
   have hlp : lanP d (SL.getD k (0, 0)) = lanesI (frst d) (SL.getD k (0, 0)).1.toNat ((SL.getD k (0, 0)).2.toNat + 1 - (SL.getD k (0, 0)).1.toNat) := rfl
   rw [hlp] at HFS
   clear htcell hlp
   generalize SL.getD k (0, 0) = t at *
   obtain ⟨t1, t2⟩ := t
   dsimp only at *
   obtain ⟨lo, rfl⟩ : ∃ lo : Nat, t1 = (lo : Int) := ⟨t1.toNat, by omega⟩
   obtain ⟨hi, rfl⟩ : ∃ hi : Nat, t2 = (hi : Int) := ⟨t2.toNat, by omega⟩
   simp only [Int.toNat_natCast] at HFS
   have HLA := Lib.hid (fun (V : World) (h : Below w1.heap.size w1 V) => rlanes_any d lo hi (by omega) (by omega) V (HD0.out.then (Below.call HB1.out h)))
   have HLL := Lib.hid (lanes_len (frst d) lo (hi + 1 - lo))
   generalize lanesI (frst d) lo (hi + 1 - lo) = LL at *
   generalize foldS d (SL.take k) = S at *
   have HBD := Lib.hid (show Below w1.heap.size w1 wr.drew from HB.out.drew)
   have HUD := Lib.hid (show KI.IsL wr.drew wr.drew.heap.size u8 S from HU.out.drewN 1)
   go_wp2_with fail
   refine wp_region_held_drew (S := fun w' => w'.cell? ⟨w.heap.size, 0, none⟩ = some (.slice d.bA d.bn d.bc) ∧ w'.cell? ⟨w.heap.size, 1, none⟩ = some (.slice d.pA d.pn d.pc) ∧ w'.cell? ⟨w.heap.size, 2, none⟩ = some (.slice d.rA d.rn d.rc) ∧ w'.cell? ⟨w.heap.size, 3, none⟩ = some (.int .i64 d.arms) ∧ w'.cell? ⟨tb, toff + k * 2, none⟩ = some (.int .i64 lo) ∧ w'.cell? ⟨tb, toff + k * 2 + 1, none⟩ = some (.int .i64 hi)) (by kernel_rfl) ?_ (fun hHeld => ?_)
   ·exact ⟨d0, d1, d2, d3, e1, e2⟩
   refine wpAnyH_take (i := 0) (oi := ⟨some 22, _, _, _, _, _⟩) (v := ?_) rfl (by kernel_rfl) (by kernel_rfl) (by kernel_rfl) (fun _ _ _ h => h) (Or.inl ⟨by kernel_rfl, ?_⟩) (by assumption) ?_
   rotate_left 1
   ·((intro w hSw; (try dsimp only at hSw); go_simp) <;> (try with_reducible rfl))
   (try simp only [Act.put, List.setIfInBounds_toArray, List.set_cons_zero, List.set_cons_succ])
   refine wpAnyH_take (i := 1) (oi := ⟨some 23, _, _, _, _, _⟩) (v := ?_) rfl (by kernel_rfl) (by kernel_rfl) (by kernel_rfl) (fun _ _ _ h => h) (Or.inl ⟨by kernel_rfl, ?_⟩) (by assumption) ?_
   rotate_left 1
   ·((intro w hSw; (try dsimp only at hSw); go_simp) <;> (try with_reducible rfl))
   (try simp only [Act.put, List.setIfInBounds_toArray, List.set_cons_zero, List.set_cons_succ])
   refine wpAnyH_take (i := 2) (oi := ⟨some 24, _, _, _, _, _⟩) (v := ?_) rfl (by kernel_rfl) (by kernel_rfl) (by kernel_rfl) (fun _ _ _ h => h) (Or.inl ⟨by kernel_rfl, ?_⟩) (by assumption) ?_
   rotate_left 1
   ·((intro w hSw; (try dsimp only at hSw); go_simp) <;> (try with_reducible rfl))
   (try simp only [Act.put, List.setIfInBounds_toArray, List.set_cons_zero, List.set_cons_succ])
   refine wpAnyH_take (i := 3) (oi := ⟨some 25, _, _, _, _, _⟩) (v := ?_) rfl (by kernel_rfl) (by kernel_rfl) (by kernel_rfl) (fun _ _ _ h => h) (Or.inl ⟨by kernel_rfl, ?_⟩) (by assumption) ?_
   rotate_left 1
   ·((intro w hSw; (try dsimp only at hSw); go_simp) <;> (try with_reducible rfl))
   (try simp only [Act.put, List.setIfInBounds_toArray, List.set_cons_zero, List.set_cons_succ])
   refine wpAnyH_take (i := 4) (oi := ⟨some 26, _, _, _, _, _⟩) (v := ?_) rfl (by kernel_rfl) (by kernel_rfl) (by kernel_rfl) (fun _ _ _ h => h) (Or.inl ⟨by kernel_rfl, ?_⟩) (by assumption) ?_
   rotate_left 1
   ·((intro w hSw; (try dsimp only at hSw); go_simp) <;> (try with_reducible rfl))
   (try simp only [Act.put, List.setIfInBounds_toArray, List.set_cons_zero, List.set_cons_succ])
   refine wpAnyH_take (i := 5) (oi := ⟨some 27, _, _, _, _, _⟩) (v := ?_) rfl (by kernel_rfl) (by kernel_rfl) (by kernel_rfl) (fun _ _ _ h => h) (Or.inl ⟨by kernel_rfl, ?_⟩) (by assumption) ?_
   rotate_left 1
   ·((intro w hSw; (try dsimp only at hSw); go_simp) <;> (try with_reducible rfl))
   (try simp only [Act.put, List.setIfInBounds_toArray, List.set_cons_zero, List.set_cons_succ])
   clear d0 d1 d2 d3 e1 e2
   refine wpAnyH_ready (rs := [6]) (by kernel_rfl) (by simp) ?_
   refine AllReadyH.cons (o := ⟨some 28, _, _, _, _, _⟩) rfl (fun K hK => ?_) AllReadyH.nil
   go_simp
   refine (HLA.out _ HBD.out).mono ?_
   rintro e w6 ⟨lv, rfl, hown6, hb⟩
   have HIL6 := Lib.hid (hown6.isL (by have := HLL.out; omega))
   have HU6 := Lib.hid (HUD.out.then hb)
   have HB6 := Lib.hid (Below.call HBD.out hb)
   clear hown6
   go_wp2_with fail
   refine hK.out _ _ ?_ (fun hHeld => ?_)
   ·exact ⟨keep_cell hb hHeld.1, keep_cell hb hHeld.2.1, keep_cell hb hHeld.2.2.1, keep_cell hb hHeld.2.2.2.1, keep_cell hb hHeld.2.2.2.2.1, keep_cell hb hHeld.2.2.2.2.2⟩
   clear hK K hb
   (try simp only [Act.put, List.setIfInBounds_toArray, List.set_cons_zero, List.set_cons_succ])
   refine wpAnyH_ready (rs := [7]) (by kernel_rfl) (by simp) ?_
   refine AllReadyH.cons (o := ⟨some 29, _, _, _, _, _⟩) rfl (fun K hK => ?_) AllReadyH.nil
   go_simp
   refine (Two.reither_any _ _ S LL w6 (two_of HU6.out) (two_of HIL6.out) (by have := HLL.out; have := HLK.out; omega) HGK.out.1).mono ?_
   rintro e w7 ⟨nv, rfl, hnv, hb⟩
   have HN7 := Lib.hid (of_two hnv)
   have HB7 := Lib.hid (Below.call HB6.out hb)
   clear hnv
   go_wp2_with fail
   refine hK.out _ _ ?_ (fun hHeld => ?_)
   ·exact ⟨keep_cell hb hHeld.1, keep_cell hb hHeld.2.1, keep_cell hb hHeld.2.2.1, keep_cell hb hHeld.2.2.2.1, keep_cell hb hHeld.2.2.2.2.1, keep_cell hb hHeld.2.2.2.2.2⟩
   clear hK K hb
   (try simp only [Act.put, List.setIfInBounds_toArray, List.set_cons_zero, List.set_cons_succ])
   refine wpAnyH_take (i := 8) (oi := ⟨some 8, _, _, _, _, _⟩) (v := ?_) rfl (by kernel_rfl) (by kernel_rfl) (by kernel_rfl) (fun _ _ _ h => h) (Or.inl ⟨by kernel_rfl, ?_⟩) (by assumption) ?_
   rotate_left 1
   ·((intro w hSw; (try dsimp only at hSw); go_simp) <;> (try with_reducible rfl))
   (try simp only [Act.put, List.setIfInBounds_toArray, List.set_cons_zero, List.set_cons_succ])
   refine wpAnyH_done (by kernel_rfl) ?_ _
   go_wp2
   go_roundw
   case rel => exact ⟨k + 1, by omega, num_i (by omega), by rw [HFS.out]; exact HN7.out, HB7.out⟩
   case measure => simp [intOf]; omega
  ·obtain rfl : k = SL.length := by omega
   rw [List.take_length] at HU
   go_wp2
   go_ret2
   exact ⟨_, rfl, HU.out, Below.call HB0.out (Below.call HB1.out HB.out)⟩
end Go.Proofs.YtmecohdedghiaaaGreatDoor
