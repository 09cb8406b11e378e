/- Is a deck too large to be looked at; what a well holds at most, and at first: what the program and the reference answer. -/
import Derived.Test.YtmecohdedghiaaaDoorPc01
import Derived.RegionTactic
import Derived.ChangeAlike
import Derived.StillTailTactics
namespace Go.Proofs.YtmecohdedghiaaaDoor
open Go.RowKit
theorem map_snoc {α : Type} (f : Nat → α) (k : Nat) : (List.range (k + 1)).map f = (List.range k).map f ++ [f k] := by
 rw [List.range_succ, List.map_append]
 rfl
set_option maxRecDepth 100000 in
set_option maxHeartbeats 4000000 in
theorem units_any (d : Dk) (w : World) (hd : d.In w w.heap.size) (hp : d.pl.length ≤ 4) (hr : d.rl.length ≤ 4) (hb1 : 2 ≤ d.bl.length) (hb2 : d.bl.length ≤ 25) :
  Calls Tryd.prog 76 #[d.v] w fun e w' => ∃ v, e = .returned v ∧ KU.Own w' w.heap.size v (unitsL d) ∧ Below w.heap.size w w' := by
 have HD := Lib.hid hd
 have e0 := hd.b.len
 have e1 := hd.p.len
 have e2 := hd.r.len
 have HU := Lib.hid (show unitsL d = (List.range d.pl.length).map (plateU d.pl) ++ (List.range d.rl.length).map (rackU d.rl) ++ (List.range (d.bl.length - 1)).map laneU from rfl)
 obtain ⟨U, hU⟩ : ∃ U, U = unitsL d := ⟨_, rfl⟩
 rw [← hU] at HU ⊢
 clear hU
 obtain ⟨bA, bn, bc, bl, pA, pn, pc, pl, rA, rn, rc, rl, arms⟩ := d
 dsimp only at *
 subst e0 e1 e2
 clear hd
 have hsf := fun (w : World) (a : Addr) (m : Mode) (b : Nat) => run_store_float (P := Tryd.prog) (w := w) (a := a) (m := m) .f64 b
 obtain ⟨w0, hw0⟩ : ∃ w0, w0 = w.alloc (.cells #[.slice bA bl.length bc, .slice pA pl.length pc, .slice rA rl.length rc, .int .i64 arms] 26) := ⟨_, rfl⟩
 have f0 : w0.cell? ⟨w.heap.size, 0, none⟩ = some (.slice bA bl.length bc) := by rw [hw0]; exact alloc_cell _ _ _ _ _ rfl
 have f1 : w0.cell? ⟨w.heap.size, 1, none⟩ = some (.slice pA pl.length pc) := by rw [hw0]; exact alloc_cell _ _ _ _ _ rfl
 have f2 : w0.cell? ⟨w.heap.size, 2, none⟩ = some (.slice rA rl.length rc) := by rw [hw0]; exact alloc_cell _ _ _ _ _ rfl
 have HB0 := Lib.hid (show Below w.heap.size w w0 by rw [hw0]; exact Below.al (Below.refl _ _) _)
 have HD0 := Lib.hid (HD.out.then HB0.out)
 obtain ⟨i0, hi, hz0, hz1, hz2⟩ := info_parts KU.info
 obtain ⟨w1, hmk, hown, hgr⟩ := run_make_own (P := Tryd.prog) w0 w0.heap.size 122 125 i0 _ 4 Tryd.underlying122 hi hz0 hz1 .i64 .i64 32 (by rw [hz2]; decide) (by decide) (Nat.le_refl _)
 have hsz : w0.heap.size = w.heap.size + 1 := by rw [hw0]; simp
 rw [show (Value.slice (some ⟨w0.heap.size, 0, none⟩) 0 32) = Value.slice (some ⟨w.heap.size + 1, 0, none⟩) 0 32 by rw [hsz]] at hown hmk
 have HO1 := Lib.hid (show KU.Own w1 w0.heap.size (.slice (some ⟨w.heap.size + 1, 0, none⟩) 0 32) [] from ⟨hown, fun x hx => by simp at hx⟩)
 have HB1 := Lib.hid (show Below w0.heap.size w0 w1 from (Below.refl _ _).grown hgr (Nat.le_refl _) (fun k hk => by cases hk))
 have HD1 := Lib.hid (HD0.out.then HB1.out)
 have HF := Lib.hid (show ∀ w2, Below w0.heap.size w0 w2 → w2.cell? ⟨w.heap.size, 0, none⟩ = some (.slice bA bl.length bc) ∧ w2.cell? ⟨w.heap.size, 1, none⟩ = some (.slice pA pl.length pc) ∧ w2.cell? ⟨w.heap.size, 2, none⟩ = some (.slice rA rl.length rc) from
  fun w2 hb => ⟨keep_cell hb f0, keep_cell hb f1, keep_cell hb f2⟩)
 clear hown hgr hi hz0 hz1 hz2 f0 f1 f2
 obtain ⟨h0, h1, h2⟩ := HF.out w1 HB1.out
 rw [hw0] at hmk
 have hmk' : (Instr.makeSlice 122 (.int .i64 0) (.int .i64 32)).run Tryd.prog (w.alloc (.cells #[.slice bA bl.length bc, .slice pA pl.length pc, .slice rA rl.length rc, .int .i64 arms] 26)) = .ok (.slice (some ⟨w.heap.size + 1, 0, none⟩) 0 32) w1 := hmk
 clear hmk
 go_enter Tryd.func76, Tryd.ntmps76
 go_wp2
 clear hmk' h0 h1 h2 hw0 hsz
 obtain ⟨v0, hv0⟩ : ∃ v, v = Value.slice (some ⟨w.heap.size + 1, 0, none⟩) 0 32 := ⟨_, rfl⟩
 rw [← hv0] at HO1
 go_loopw [3, 13] (fun v i wr => ∃ k : Nat, k ≤ pl.length ∧ i = .int .i64 k ∧ KU.Own wr w0.heap.size v ((List.range k).map (plateU pl)) ∧ Below w0.heap.size w0 wr) (fun _ i _ => pl.length - (intOf i).toNat)
 case atStart => exact ⟨0, Nat.zero_le _, rfl, by rw [← hv0]; exact HO1.out, HB1.out⟩
 case round =>
  obtain ⟨k, hk, rfl, hown, hbl⟩ := hrel
  have HO := Lib.hid hown
  have HB := Lib.hid hbl
  clear hown hbl
  by_cases hlt : k < pl.length
  ·obtain ⟨b, off, rfl, hb, hc, hcell⟩ := plate_cells (HD0.out.p.below HB.out) (by dsimp only; omega)
   obtain ⟨c0, c1, c2, c3, c4, c5, c6⟩ := hcell k hlt
   have HS := Lib.hid (map_snoc (plateU pl) k)
   obtain ⟨o1, o2, _⟩ := HD0.out.p.okAt k hlt
   have HOK := Lib.hid (show KU.ok (plateU pl k) from ⟨(by decide : fits 1), (show fits (k : Int) by unfold fits; omega), o1, o2⟩)
   have HLN := Lib.hid (show ((List.range k).map (plateU pl)).length = k by simp)
   have hu : plateU pl k = ⟨1, k, (pl.getD k KP.dflt).rows, (pl.getD k KP.dflt).cols⟩ := rfl
   rw [hu] at HS HOK
   clear hcell hu o1 o2
   dsimp only at *
   generalize pl.getD k KP.dflt = q at *
   generalize (List.range k).map (plateU pl) = L at *
   go_wp2_with (at_builtin; refine Lk.wpList_app (K := KU) _ rfl _ _ rfl rfl w0.heap.size (wr.heap.size + 1 + 1) _ _ L [⟨1, k, q.rows, q.cols⟩] rfl rfl ((HO.out.alloc _).alloc _) (Lk.IsL.lit (K := KU) _ ⟨1, k, q.rows, q.cols⟩ _ HOK.out rfl (wr.heap.size + 1) (by simp)) ?c1 ?c2 ?_)
   case c1 => have := HLN.out; simp; omega
   case c2 => have := HB.out.size; simp; omega
   intro v1 w2 hown hgrow _
   have HB2 := Lib.hid (Lk.Own.grow' ((HO.out.alloc _).alloc _) (Below.al (Below.al HB.out _) _) (by have := HB.out.size; simp; omega) hgrow)
   have HO2 := Lib.hid hown
   clear hown hgrow
   go_wp2
   go_roundw
   case rel => exact ⟨k + 1, by omega, num_i (by omega), by rw [HS.out]; exact HO2.out, HB2.out⟩
   case measure => simp [intOf]; omega
  ·obtain rfl : k = pl.length := by omega
   obtain ⟨w2, hw2⟩ : ∃ w2, w2 = wr := ⟨_, rfl⟩
   subst hw2
   obtain ⟨q0, q1, q2⟩ := HF.out w2 HB.out
   obtain ⟨L1, hL1⟩ : ∃ L1, L1 = (List.range pl.length).map (plateU pl) := ⟨_, rfl⟩
   have HLL := Lib.hid (show L1.length = pl.length by rw [hL1]; simp)
   rw [← hL1] at HO HU
   clear hL1
   go_wp2
   clear q0 q1 q2
   obtain ⟨va, hva⟩ : ∃ v, v = u3 := ⟨_, rfl⟩
   rw [← hva] at HO
   go_loopw [3, 31] (fun v i wr => ∃ k : Nat, k ≤ rl.length ∧ i = .int .i64 k ∧ KU.Own wr w0.heap.size v (L1 ++ (List.range k).map (rackU rl)) ∧ Below w0.heap.size w0 wr) (fun _ i _ => rl.length - (intOf i).toNat)
   case atStart => exact ⟨0, Nat.zero_le _, rfl, by rw [← hva]; simpa using HO.out, HB.out⟩
   case round =>
    clear HO
    obtain ⟨k, hk, rfl, hown, hbl⟩ := hrel
    have HO := Lib.hid hown
    have HB2 := Lib.hid hbl
    clear hown hbl
    by_cases hlt : k < rl.length
    ·obtain ⟨b, off, rfl, hb, hc, hcell⟩ := rack_cells (HD0.out.r.below HB2.out) (by dsimp only; omega)
     obtain ⟨c0, c1, c2, c3, c4⟩ := hcell k hlt
     have HS := Lib.hid (map_snoc (rackU rl) k)
     obtain ⟨o1, o2, _⟩ := HD0.out.r.okAt k hlt
     have HOK := Lib.hid (show KU.ok (rackU rl k) from ⟨(by decide : fits 2), (show fits (k : Int) by unfold fits; omega), o1, o2⟩)
     have HLN := Lib.hid (show (L1 ++ (List.range k).map (rackU rl)).length = pl.length + k by rw [List.length_append, HLL.out]; simp)
     have hu : rackU rl k = ⟨2, k, (rl.getD k KR.dflt).rows, (rl.getD k KR.dflt).cols⟩ := rfl
     rw [hu] at HS HOK
     clear hcell hu o1 o2
     dsimp only at *
     generalize rl.getD k KR.dflt = q at *
     have HS2 := Lib.hid (show L1 ++ (List.range (k + 1)).map (rackU rl) = (L1 ++ (List.range k).map (rackU rl)) ++ [⟨2, k, q.rows, q.cols⟩] by rw [HS.out, List.append_assoc])
     clear HS
     generalize L1 ++ (List.range k).map (rackU rl) = L at *
     go_wp2_with (at_builtin; refine Lk.wpList_app (K := KU) _ rfl _ _ rfl rfl w0.heap.size (wr.heap.size + 1 + 1) _ _ L [⟨2, k, q.rows, q.cols⟩] rfl rfl ((HO.out.alloc _).alloc _) (Lk.IsL.lit (K := KU) _ ⟨2, k, q.rows, q.cols⟩ _ HOK.out rfl (wr.heap.size + 1) (by simp)) ?c1 ?c2 ?_)
     case c1 => have := HLN.out; simp; omega
     case c2 => have := HB2.out.size; simp; omega
     intro v1 w3 hown hgrow _
     have HB3 := Lib.hid (Lk.Own.grow' ((HO.out.alloc _).alloc _) (Below.al (Below.al HB2.out _) _) (by have := HB2.out.size; simp; omega) hgrow)
     have HO3 := Lib.hid hown
     clear hown hgrow
     go_wp2
     go_roundw
     case rel => exact ⟨k + 1, by omega, num_i (by omega), by rw [HS2.out]; exact HO3.out, HB3.out⟩
     case measure => simp [intOf]; omega
    ·obtain rfl : k = rl.length := by omega
     obtain ⟨w3, hw3⟩ : ∃ w3, w3 = wr := ⟨_, rfl⟩
     subst hw3
     obtain ⟨q0, q1, q2⟩ := HF.out w3 HB2.out
     obtain ⟨L2, hL2⟩ : ∃ L2, L2 = L1 ++ (List.range rl.length).map (rackU rl) := ⟨_, rfl⟩
     have HLL2 := Lib.hid (show L2.length = pl.length + rl.length by rw [hL2, List.length_append, HLL.out]; simp)
     rw [← hL2] at HO HU
     clear hL2
     obtain ⟨nb, hnb⟩ : ∃ nb, bl.length = nb + 1 := ⟨bl.length - 1, by omega⟩
     rw [hnb] at q0 hb1 hb2
     rw [show bl.length - 1 = nb by omega] at HU
     clear hnb
     go_wp2
     clear q0 q1 q2
     obtain ⟨vb, hvb⟩ : ∃ v, v = u3 := ⟨_, rfl⟩
     rw [← hvb] at HO
     go_loopw [3, 50] (fun v i wr => ∃ k : Nat, k ≤ nb ∧ i = .int .i64 k ∧ KU.Own wr w0.heap.size v (L2 ++ (List.range k).map laneU) ∧ Below w0.heap.size w0 wr) (fun _ i _ => nb - (intOf i).toNat)
     case atStart => exact ⟨0, Nat.zero_le _, rfl, by rw [← hvb]; simpa using HO.out, HB2.out⟩
     case round =>
      clear HO
      obtain ⟨k, hk, rfl, hown, hbl⟩ := hrel
      have HO := Lib.hid hown
      have HB3 := Lib.hid hbl
      clear hown hbl
      by_cases hlt : k < nb
      ·have HS := Lib.hid (map_snoc laneU k)
       have HOK := Lib.hid (show KU.ok (laneU k) from ⟨(by decide : fits 3), (show fits (k : Int) by unfold fits; omega), (by decide : fits 1), (by decide : fits 1)⟩)
       have HLN := Lib.hid (show (L2 ++ (List.range k).map laneU).length = pl.length + rl.length + k by rw [List.length_append, HLL2.out]; simp)
       have hu : laneU k = ⟨3, k, 1, 1⟩ := rfl
       rw [hu] at HS HOK
       clear hu
       have HS2 := Lib.hid (show L2 ++ (List.range (k + 1)).map laneU = (L2 ++ (List.range k).map laneU) ++ [⟨3, k, 1, 1⟩] by rw [HS.out, List.append_assoc])
       clear HS
       generalize L2 ++ (List.range k).map laneU = L at *
       go_wp2_with (at_builtin; refine Lk.wpList_app (K := KU) _ rfl _ _ rfl rfl w0.heap.size (wr.heap.size + 1) _ _ L [⟨3, k, 1, 1⟩] rfl rfl (HO.out.alloc _) (Lk.IsL.lit (K := KU) _ ⟨3, k, 1, 1⟩ _ HOK.out rfl wr.heap.size rfl) ?c1 ?c2 ?_)
       case c1 => have := HLN.out; simp; omega
       case c2 => have := HB3.out.size; simp; omega
       intro v1 w4 hown hgrow _
       have HB4 := Lib.hid (Lk.Own.grow' (HO.out.alloc _) (Below.al HB3.out _) (by have := HB3.out.size; simp; omega) hgrow)
       have HO4 := Lib.hid hown
       clear hown hgrow
       go_wp2
       go_roundw
       case rel => exact ⟨k + 1, by omega, num_i (by omega), by rw [HS2.out]; exact HO4.out, HB4.out⟩
       case measure => simp [intOf]; omega
      ·obtain rfl : k = nb := by omega
       go_wp2
       go_ret
       exact ⟨_, rfl, by rw [HU.out]; exact HO.out.mono HB0.out.size, Below.call HB0.out HB3.out⟩
end Go.Proofs.YtmecohdedghiaaaDoor
namespace Go.Proofs.YtmecohdedghiaaaDoor
open Go.RowKit
/-- What is known of a described deck. -/
structure OkD (d : Dk) : Prop where
 rise : Rise d.bl
 p4 : d.pl.length ≤ 4
 r4 : d.rl.length ≤ 4
 arm : 1 ≤ d.arms ∧ d.arms ≤ 8
 pl : ∀ i, i < d.pl.length → plateB (d.pl.getD i KP.dflt) = true
 rl : ∀ i, i < d.rl.length → rackB (d.rl.getD i KR.dflt) = true
 wells : wellsV d.pl ≤ 384
 tips : tipsV d.rl ≤ 384
theorem dchk_ok (d : Dk) (h : dchk d = 0) : OkD d := by
 by_cases hz : chkE d.bl = 0
 ·by_cases h1 : 1 ≤ d.arms ∧ d.arms ≤ 8
  ·by_cases h2 : 4 < d.pl.length ∨ 4 < d.rl.length
   ·rw [dchk_l d hz h1 h2] at h; cases h
   ·rcases h3 : d.pl.all plateB with _ | _
    ·rw [dchk_p d hz h1 h2 h3] at h; cases h
    ·rcases h4 : d.rl.all rackB with _ | _
     ·rw [dchk_r d hz h1 h2 h3 h4] at h; cases h
     ·rw [dchk_n d hz h1 h2 h3 h4] at h
      have h5 : ¬ (384 < wellsV d.pl ∨ 384 < tipsV d.rl) := fun hh => by rw [if_pos hh] at h; cases h
      exact ⟨rise_of _ hz, by omega, by omega, h1, fun i hi => List.all_eq_true.1 h3 _ (getD_mem' _ i _ hi), fun i hi => List.all_eq_true.1 h4 _ (getD_mem' _ i _ hi), by omega, by omega⟩
  ·rw [dchk_a d hz h1] at h; cases h
 ·rw [dchk_b d hz] at h; exact absurd h hz
theorem units_ok (d : Dk) (h : OkD d) : ∀ u ∈ unitsL d, okU u := by
 intro u hu
 have h2 := h.rise.most
 have h3 := h.p4
 have h4 := h.r4
 unfold unitsL at hu
 rcases List.mem_append.1 hu with hu | hu
 ·rcases List.mem_append.1 hu with hu | hu
  ·obtain ⟨i, hi, rfl⟩ := List.mem_map.1 hu
   have hi := List.mem_range.1 hi
   exact ⟨.inl rfl, show (0 : Int) ≤ (i : Int) by omega, show (i : Int) ≤ 23 by omega, plate_size (h.pl i hi)⟩
  ·obtain ⟨i, hi, rfl⟩ := List.mem_map.1 hu
   have hi := List.mem_range.1 hi
   exact ⟨.inr (.inl rfl), show (0 : Int) ≤ (i : Int) by omega, show (i : Int) ≤ 23 by omega, h.rl i hi⟩
 ·obtain ⟨i, hi, rfl⟩ := List.mem_map.1 hu
  have hi := List.mem_range.1 hi
  exact ⟨.inr (.inr rfl), show (0 : Int) ≤ (i : Int) by omega, show (i : Int) ≤ 23 by omega, (by decide : sizeB 1 1 = true)⟩
theorem units_len (d : Dk) (h : OkD d) : (unitsL d).length ≤ 32 := by
 have h2 := h.rise.most
 have h3 := h.p4
 have h4 := h.r4
 unfold unitsL
 simp
 omega
noncomputable def partV (d : Dk) (id : Int) : Q4 × Int := if dchk d = 0 then partR (partsL d) id else (⟨0, 0, 0, 0⟩, dchk d)
noncomputable def idV (d : Dk) (p : Q4) : Int × Int := if dchk d = 0 then idR p (partsL d) 0 else (0, dchk d)
/-- A part beside an error, as a value. -/
def partVal (t : Q4 × Int) : Value := .tuple #[.agg #[.int .i64 t.1.a, .int .i64 t.1.b, .int .i64 t.1.c, .int .i64 t.1.d], .int .i64 t.2]
/-- Four cells stored. -/
theorem st4 {w : World} {b : Nat} {u0 u1 u2 u3 : Value} (x0 x1 x2 x3 : Value) (h0 : w.cell? ⟨b, 0, none⟩ = some u0) (h1 : w.cell? ⟨b, 1, none⟩ = some u1) (h2 : w.cell? ⟨b, 2, none⟩ = some u2) (h3 : w.cell? ⟨b, 3, none⟩ = some u3) :
  ((((w.setCell ⟨b, 0, none⟩ x0).setCell ⟨b, 1, none⟩ x1).setCell ⟨b, 2, none⟩ x2).setCell ⟨b, 3, none⟩ x3).cell? ⟨b, 0, none⟩ = some x0 ∧ ((((w.setCell ⟨b, 0, none⟩ x0).setCell ⟨b, 1, none⟩ x1).setCell ⟨b, 2, none⟩ x2).setCell ⟨b, 3, none⟩ x3).cell? ⟨b, 1, none⟩ = some x1 ∧
  ((((w.setCell ⟨b, 0, none⟩ x0).setCell ⟨b, 1, none⟩ x1).setCell ⟨b, 2, none⟩ x2).setCell ⟨b, 3, none⟩ x3).cell? ⟨b, 2, none⟩ = some x2 ∧ ((((w.setCell ⟨b, 0, none⟩ x0).setCell ⟨b, 1, none⟩ x1).setCell ⟨b, 2, none⟩ x2).setCell ⟨b, 3, none⟩ x3).cell? ⟨b, 3, none⟩ = some x3 :=
 ⟨st_other (st_other (st_other (st_same h0) (by simp)) (by simp)) (by simp), st_other (st_other (st_same (st_other h1 (by simp))) (by simp)) (by simp),
  st_other (st_same (st_other (st_other h2 (by simp)) (by simp))) (by simp), st_same (st_other (st_other (st_other h3 (by simp)) (by simp)) (by simp))⟩
theorem below_st4 {W w : World} {b : Nat} (x0 x1 x2 x3 : Value) (h : Below W.heap.size W w) (hb : W.heap.size ≤ b) : Below W.heap.size W ((((w.setCell ⟨b, 0, none⟩ x0).setCell ⟨b, 1, none⟩ x1).setCell ⟨b, 2, none⟩ x2).setCell ⟨b, 3, none⟩ x3) :=
 Below.st (Below.st (Below.st (Below.st h hb) hb) hb) hb
theorem st4_far {w : World} {b b2 i : Nat} {u x0 x1 x2 x3 : Value} (h : w.cell? ⟨b2, i, none⟩ = some u) (hne : b ≠ b2) : ((((w.setCell ⟨b, 0, none⟩ x0).setCell ⟨b, 1, none⟩ x1).setCell ⟨b, 2, none⟩ x2).setCell ⟨b, 3, none⟩ x3).cell? ⟨b2, i, none⟩ = some u :=
 st_other (st_other (st_other (st_other h (fun e => hne (by injection e))) (fun e => hne (by injection e))) (fun e => hne (by injection e))) (fun e => hne (by injection e))
theorem st4_fz {w : World} {b b2 i : Nat} {x0 x1 x2 x3 : Value} (h : w.frozen? ⟨b2, i, none⟩ = false) : ((((w.setCell ⟨b, 0, none⟩ x0).setCell ⟨b, 1, none⟩ x1).setCell ⟨b, 2, none⟩ x2).setCell ⟨b, 3, none⟩ x3).frozen? ⟨b2, i, none⟩ = false := st_fz (st_fz (st_fz (st_fz h)))
set_option maxRecDepth 100000 in
set_option maxHeartbeats 4000000 in
theorem part_any (d : Dk) (id : Int) (hid : fits id) (w : World) (hd : d.In w w.heap.size) : Calls Tryd.prog 61 #[d.v, .int .i64 id] w fun e w' => e = .returned (partVal (partV d id)) ∧ Below w.heap.size w w' := by
 have HC := Lib.hid (fun w h => dcheck_any d w h)
 have HD := Lib.hid hd
 have HU := Lib.hid (fun w h a b c e => units_any d w h a b c e)
 obtain ⟨w0, hw0⟩ : ∃ w0, w0 = (w.alloc (.cells #[.slice d.bA d.bn d.bc, .slice d.pA d.pn d.pc, .slice d.rA d.rn d.rc, .int .i64 d.arms] 26)).alloc (.cells #[.int .i64 0, .int .i64 0, .int .i64 0, .int .i64 0] 90) := ⟨_, rfl⟩
 have HB0 := Lib.hid (show Below w.heap.size w w0 by rw [hw0]; exact Below.al (Below.al (Below.refl _ _) _) _)
 have HD0 := Lib.hid (HD.out.then HB0.out)
 have HSZ := Lib.hid (show w.heap.size + 1 < w0.heap.size by rw [hw0]; simp)
 have HF := Lib.hid (show ∀ w1, Below w0.heap.size w0 w1 → (w1.cell? ⟨w.heap.size, 0, none⟩ = some (.slice d.bA d.bn d.bc) ∧ w1.cell? ⟨w.heap.size, 1, none⟩ = some (.slice d.pA d.pn d.pc) ∧ w1.cell? ⟨w.heap.size, 2, none⟩ = some (.slice d.rA d.rn d.rc) ∧ w1.cell? ⟨w.heap.size, 3, none⟩ = some (.int .i64 d.arms)) ∧
  (w1.cell? ⟨w.heap.size + 1, 0, none⟩ = some (.int .i64 0) ∧ w1.cell? ⟨w.heap.size + 1, 1, none⟩ = some (.int .i64 0) ∧ w1.cell? ⟨w.heap.size + 1, 2, none⟩ = some (.int .i64 0) ∧ w1.cell? ⟨w.heap.size + 1, 3, none⟩ = some (.int .i64 0)) ∧
  (w1.frozen? ⟨w.heap.size + 1, 0, none⟩ = false ∧ w1.frozen? ⟨w.heap.size + 1, 1, none⟩ = false ∧ w1.frozen? ⟨w.heap.size + 1, 2, none⟩ = false ∧ w1.frozen? ⟨w.heap.size + 1, 3, none⟩ = false) from by
   intro w1 hb
   have hs : w.heap.size + 1 < w0.heap.size := by rw [hw0]; simp
   refine ⟨⟨keep_cell hb ?_, keep_cell hb ?_, keep_cell hb ?_, keep_cell hb ?_⟩, ⟨keep_cell hb ?_, keep_cell hb ?_, keep_cell hb ?_, keep_cell hb ?_⟩, (hb.frozen (p := ⟨_, 0, none⟩) hs).trans ?_, (hb.frozen (p := ⟨_, 1, none⟩) hs).trans ?_, (hb.frozen (p := ⟨_, 2, none⟩) hs).trans ?_, (hb.frozen (p := ⟨_, 3, none⟩) hs).trans ?_⟩
   all_goals (rw [hw0]; simp))
 by_cases hz : dchk d = 0
 ·have hok := dchk_ok d hz
  have HP := Lib.hid (show partV d id = partU (unitsL d) id by unfold partV partsL; rw [if_pos hz, partU_R _ (units_ok d hok)])
  have HOK := Lib.hid hok
  have HUO := Lib.hid (units_ok d hok)
  have HUL := Lib.hid (units_len d hok)
  rw [HP.out]
  rw [hz] at HC
  clear hz HP hok hd
  obtain ⟨us, hus⟩ : ∃ us, us = unitsL d := ⟨_, rfl⟩
  rw [← hus] at HUO HUL HU ⊢
  clear hus
  go_enter Tryd.func61, Tryd.ntmps61
  go_wp2_with fail
  go_step3
  go_wp2_with fail
  rw [← hw0]
  clear hw0
  refine (HC.out _ HD0.out).mono ?_
  rintro e w1 ⟨rfl, hb1⟩
  obtain ⟨⟨d0, d1, d2, d3⟩, _, _⟩ := HF.out w1 hb1
  have HB1 := Lib.hid hb1
  have hz1 : w.heap.size + 1 < w1.heap.size := Nat.lt_of_lt_of_le HSZ.out hb1.size
  have hz0 : w.heap.size < w1.heap.size := by omega
  clear hb1
  go_wp2_with fail
  go_step3
  go_wp2_with fail
  clear d0 d1 d2 d3
  have p0 : (w1.alloc (.cells #[.int .i64 0, .int .i64 0, .int .i64 0, .int .i64 0] 90)).cell? ⟨w1.heap.size, 0, none⟩ = some (.int .i64 0) := alloc_cell _ _ _ _ _ rfl
  have p1 : (w1.alloc (.cells #[.int .i64 0, .int .i64 0, .int .i64 0, .int .i64 0] 90)).cell? ⟨w1.heap.size, 1, none⟩ = some (.int .i64 0) := alloc_cell _ _ _ _ _ rfl
  have p2 : (w1.alloc (.cells #[.int .i64 0, .int .i64 0, .int .i64 0, .int .i64 0] 90)).cell? ⟨w1.heap.size, 2, none⟩ = some (.int .i64 0) := alloc_cell _ _ _ _ _ rfl
  have p3 : (w1.alloc (.cells #[.int .i64 0, .int .i64 0, .int .i64 0, .int .i64 0] 90)).cell? ⟨w1.heap.size, 3, none⟩ = some (.int .i64 0) := alloc_cell _ _ _ _ _ rfl
  have z0 : (w1.alloc (.cells #[.int .i64 0, .int .i64 0, .int .i64 0, .int .i64 0] 90)).frozen? ⟨w1.heap.size, 0, none⟩ = false := by simp
  have z1 : (w1.alloc (.cells #[.int .i64 0, .int .i64 0, .int .i64 0, .int .i64 0] 90)).frozen? ⟨w1.heap.size, 1, none⟩ = false := by simp
  have z2 : (w1.alloc (.cells #[.int .i64 0, .int .i64 0, .int .i64 0, .int .i64 0] 90)).frozen? ⟨w1.heap.size, 2, none⟩ = false := by simp
  have z3 : (w1.alloc (.cells #[.int .i64 0, .int .i64 0, .int .i64 0, .int .i64 0] 90)).frozen? ⟨w1.heap.size, 3, none⟩ = false := by simp
  have hB2 := Below.al HB1.out (.cells #[.int .i64 0, .int .i64 0, .int .i64 0, .int .i64 0] 90)
  have hs2 : w1.heap.size < (w1.alloc (.cells #[.int .i64 0, .int .i64 0, .int .i64 0, .int .i64 0] 90)).heap.size := by simp
  generalize w1.alloc (.cells #[.int .i64 0, .int .i64 0, .int .i64 0, .int .i64 0] 90) = w2 at p0 p1 p2 p3 z0 z1 z2 z3 hB2 hs2 ⊢
  have hg : w0.heap.size ≤ w1.heap.size := HB1.out.size
  generalize w1.heap.size = g at p0 p1 p2 p3 z0 z1 z2 z3 hs2 hg hz0 hz1 ⊢
  have HB2 := Lib.hid hB2
  clear hB2 HB1
  refine (HU.out w2 (HD0.out.then HB2.out) HOK.out.p4 HOK.out.r4 HOK.out.rise.two HOK.out.rise.most).mono ?_
  rintro e w3 ⟨v, rfl, hown, hb3⟩
  have HG := Lib.hid (show ∀ w4, Below w3.heap.size w3 w4 → (w4.cell? ⟨g, 0, none⟩ = some (.int .i64 0) ∧ w4.cell? ⟨g, 1, none⟩ = some (.int .i64 0) ∧ w4.cell? ⟨g, 2, none⟩ = some (.int .i64 0) ∧ w4.cell? ⟨g, 3, none⟩ = some (.int .i64 0)) ∧
   (w4.frozen? ⟨g, 0, none⟩ = false ∧ w4.frozen? ⟨g, 1, none⟩ = false ∧ w4.frozen? ⟨g, 2, none⟩ = false ∧ w4.frozen? ⟨g, 3, none⟩ = false) from fun w4 hb =>
    have hb4 := Below.call hb3 hb
    ⟨⟨keep_cell hb4 p0, keep_cell hb4 p1, keep_cell hb4 p2, keep_cell hb4 p3⟩, (hb4.frozen (p := ⟨_, 0, none⟩) hs2).trans z0, (hb4.frozen (p := ⟨_, 1, none⟩) hs2).trans z1, (hb4.frozen (p := ⟨_, 2, none⟩) hs2).trans z2, (hb4.frozen (p := ⟨_, 3, none⟩) hs2).trans z3⟩)
  have HB3 := Lib.hid (Below.call HB2.out hb3)
  have hs3 : g < w3.heap.size := Nat.lt_of_lt_of_le hs2 hb3.size
  have HL := Lib.hid (hown.isL (by have := HUL.out; omega))
  obtain ⟨⟨A, cap, rfl, hcap, _⟩, _, _⟩ := HL.out
  have hul : us.length ≤ 32 := HUL.out
  clear p0 p1 p2 p3 z0 z1 z2 z3 hown hb3 hs2
  go_wp2
  go_loopw [8, 9, 23] (fun e l i wr => ∃ (k : Nat) (left : Int), k ≤ us.length ∧ i = .int .i64 k ∧ l = .int .i64 left ∧ e = .int .i64 3 ∧ fits left ∧ partU (us.drop k) left = partU us id ∧ Below w3.heap.size w3 wr) (fun _ _ i _ => us.length - (intOf i).toNat)
  case atStart => exact ⟨0, id, Nat.zero_le _, rfl, rfl, rfl, hid, rfl, Below.refl _ _⟩
  case round =>
   obtain ⟨k, left, hk, rfl, rfl, rfl, hfl, hgo, hbl⟩ := hrel
   have HB := Lib.hid hbl
   have HGO := Lib.hid hgo
   unfold fits at hfl
   have hgr : g < wr.heap.size := Nat.lt_of_lt_of_le hs3 hbl.size
   have hwr : w.heap.size + 1 < wr.heap.size := by omega
   have HW := Lib.hid (Below.call HB3.out hbl)
   clear hbl hgo
   by_cases hlt : k < us.length
   ·obtain ⟨b, off, rfl, hbB, _, hcell⟩ := q4_cells (K := KU) rfl rfl rfl (HL.out.below HB.out) (by omega)
    obtain ⟨c0, c1, c2, c3⟩ := hcell k hlt
    have HU1 := Lib.hid (HUO.out _ (getD_mem' us k ⟨0, 0, 0, 0⟩ hlt))
    have hgo := HGO.out
    rw [drop_snoc us k ⟨0, 0, 0, 0⟩ hlt] at hgo
    clear hcell
    generalize us.getD k ⟨0, 0, 0, 0⟩ = u at *
    obtain ⟨o1, o2, o3, o4, o5, o6, o7⟩ := okU_pos HU1.out
    have od : 1 ≤ u.d := by omega
    have oc : u.c * u.d ≤ 1536 := by omega
    have oc1 : 1 ≤ u.c * u.d := by omega
    have HPA := Lib.hid (parts_any u HU1.out)
    clear o1 o2 o3 o4 o5 o6 o7
    rw [partU] at hgo
    by_cases l0 : left < 0
    ·rw [if_pos l0] at hgo
     have HF1 := Lib.hid hgo
     clear hgo
     obtain ⟨⟨r0, r1, r2, r3⟩, _⟩ := HG.out wr HB.out
     obtain ⟨_, ⟨q0, q1, q2, q3⟩, ⟨z0, z1, z2, z3⟩⟩ := HF.out wr HW.out
     go_wp2
     rw [Exit.noGoto_ret]
     obtain ⟨y0, y1, y2, y3⟩ := st4 (.int .i64 0) (.int .i64 0) (.int .i64 0) (.int .i64 0) q0 q1 q2 q3
     have hb := below_st4 (.int .i64 0) (.int .i64 0) (.int .i64 0) (.int .i64 0) (Below.call HB0.out HW.out) (show w.heap.size ≤ w.heap.size + 1 by omega)
     generalize (((wr.setCell ⟨w.heap.size + 1, 0, none⟩ (.int .i64 0)).setCell ⟨w.heap.size + 1, 1, none⟩ (.int .i64 0)).setCell ⟨w.heap.size + 1, 2, none⟩ (.int .i64 0)).setCell ⟨w.heap.size + 1, 3, none⟩ (.int .i64 0) = w5 at *
     have y0' := keep_cell (Below.al (Below.refl _ _) (.cells #[.int .i64 u.a, .int .i64 u.b, .int .i64 u.c, .int .i64 u.d] 125)) y0
     have y1' := keep_cell (Below.al (Below.refl _ _) (.cells #[.int .i64 u.a, .int .i64 u.b, .int .i64 u.c, .int .i64 u.d] 125)) y1
     have y2' := keep_cell (Below.al (Below.refl _ _) (.cells #[.int .i64 u.a, .int .i64 u.b, .int .i64 u.c, .int .i64 u.d] 125)) y2
     have y3' := keep_cell (Below.al (Below.refl _ _) (.cells #[.int .i64 u.a, .int .i64 u.b, .int .i64 u.c, .int .i64 u.d] 125)) y3
     exact bodyPost_ret (v := .tuple #[.agg #[.int .i64 0, .int .i64 0, .int .i64 0, .int .i64 0], .int .i64 3]) (by simp [results, Tryd.results61, go_sem, y0', y1', y2', y3']) rfl ⟨by rw [← HF1.out]; rfl, Below.al hb _⟩
    ·rw [if_neg l0] at hgo
     by_cases l1 : left < u.c * u.d
     ·rw [if_pos l1] at hgo
      have HF1 := Lib.hid hgo
      clear hgo
      go_wp2_with fail
      refine (HPA.out _).mono ?_
      rintro e w4 ⟨rfl, hb4⟩
      have y0 : w4.cell? ⟨wr.heap.size, 0, none⟩ = some (.int .i64 u.a) := keep_cell hb4 (alloc_cell _ _ _ _ _ rfl)
      have y1 : w4.cell? ⟨wr.heap.size, 1, none⟩ = some (.int .i64 u.b) := keep_cell hb4 (alloc_cell _ _ _ _ _ rfl)
      have y3 : w4.cell? ⟨wr.heap.size, 3, none⟩ = some (.int .i64 u.d) := keep_cell hb4 (alloc_cell _ _ _ _ _ rfl)
      have HB4 := Lib.hid (Below.call (Below.al HB.out _) hb4)
      have HW4 := Lib.hid (Below.call (Below.al HW.out _) hb4)
      obtain ⟨⟨r0, r1, r2, r3⟩, ⟨x0, x1, x2, x3⟩⟩ := HG.out w4 HB4.out
      obtain ⟨_, ⟨q0, q1, q2, q3⟩, ⟨z0, z1, z2, z3⟩⟩ := HF.out w4 HW4.out
      have hgw : g < w4.heap.size := Nat.lt_of_lt_of_le hs3 HB4.out.size
      clear hb4
      go_wp2
      go_region
      obtain ⟨s0, s1, s2, s3⟩ := st4 (.int .i64 u.a) (.int .i64 u.b) (.int .i64 (left / u.d)) (.int .i64 (left % u.d)) r0 r1 r2 r3
      have hne : g ≠ w.heap.size + 1 := by omega
      have m0 := st4_far (b := g) (x0 := .int .i64 u.a) (x1 := .int .i64 u.b) (x2 := .int .i64 (left / u.d)) (x3 := .int .i64 (left % u.d)) q0 hne
      have m1 := st4_far (b := g) (x0 := .int .i64 u.a) (x1 := .int .i64 u.b) (x2 := .int .i64 (left / u.d)) (x3 := .int .i64 (left % u.d)) q1 hne
      have m2 := st4_far (b := g) (x0 := .int .i64 u.a) (x1 := .int .i64 u.b) (x2 := .int .i64 (left / u.d)) (x3 := .int .i64 (left % u.d)) q2 hne
      have m3 := st4_far (b := g) (x0 := .int .i64 u.a) (x1 := .int .i64 u.b) (x2 := .int .i64 (left / u.d)) (x3 := .int .i64 (left % u.d)) q3 hne
      have n0 := st4_fz (b := g) (x0 := .int .i64 u.a) (x1 := .int .i64 u.b) (x2 := .int .i64 (left / u.d)) (x3 := .int .i64 (left % u.d)) z0
      have n1 := st4_fz (b := g) (x0 := .int .i64 u.a) (x1 := .int .i64 u.b) (x2 := .int .i64 (left / u.d)) (x3 := .int .i64 (left % u.d)) z1
      have n2 := st4_fz (b := g) (x0 := .int .i64 u.a) (x1 := .int .i64 u.b) (x2 := .int .i64 (left / u.d)) (x3 := .int .i64 (left % u.d)) z2
      have n3 := st4_fz (b := g) (x0 := .int .i64 u.a) (x1 := .int .i64 u.b) (x2 := .int .i64 (left / u.d)) (x3 := .int .i64 (left % u.d)) z3
      have hb5 := below_st4 (.int .i64 u.a) (.int .i64 u.b) (.int .i64 (left / u.d)) (.int .i64 (left % u.d)) HW4.out hg
      clear r0 r1 r2 r3 x0 x1 x2 x3 q0 q1 q2 q3 z0 z1 z2 z3 y0 y1 y3
      generalize (((w4.setCell ⟨g, 0, none⟩ (.int .i64 u.a)).setCell ⟨g, 1, none⟩ (.int .i64 u.b)).setCell ⟨g, 2, none⟩ (.int .i64 (left / u.d))).setCell ⟨g, 3, none⟩ (.int .i64 (left % u.d)) = w5 at *
      have HB5 := Lib.hid hb5
      clear hb5
      go_wp2
      rw [Exit.noGoto_ret]
      obtain ⟨y0, y1, y2, y3⟩ := st4 (.int .i64 u.a) (.int .i64 u.b) (.int .i64 (left / u.d)) (.int .i64 (left % u.d)) m0 m1 m2 m3
      have hb := below_st4 (.int .i64 u.a) (.int .i64 u.b) (.int .i64 (left / u.d)) (.int .i64 (left % u.d)) (Below.call HB0.out HB5.out) (show w.heap.size ≤ w.heap.size + 1 by omega)
      exact bodyPost_ret (v := .tuple #[.agg #[.int .i64 u.a, .int .i64 u.b, .int .i64 (left / u.d), .int .i64 (left % u.d)], .int .i64 0]) (by simp [results, Tryd.results61, go_sem, y0, y1, y2, y3]) rfl ⟨by rw [← HF1.out]; rfl, Below.drew hb⟩
     ·rw [if_neg l1] at hgo
      have HF1 := Lib.hid hgo
      have l2 : u.c * u.d ≤ left := by omega
      clear hgo
      go_wp2_with fail
      refine (HPA.out _).mono ?_
      rintro e w4 ⟨rfl, hb4⟩
      have y0 : w4.cell? ⟨wr.heap.size, 0, none⟩ = some (.int .i64 u.a) := keep_cell hb4 (alloc_cell _ _ _ _ _ rfl)
      have y1 : w4.cell? ⟨wr.heap.size, 1, none⟩ = some (.int .i64 u.b) := keep_cell hb4 (alloc_cell _ _ _ _ _ rfl)
      have y2 : w4.cell? ⟨wr.heap.size, 2, none⟩ = some (.int .i64 u.c) := keep_cell hb4 (alloc_cell _ _ _ _ _ rfl)
      have y3 : w4.cell? ⟨wr.heap.size, 3, none⟩ = some (.int .i64 u.d) := keep_cell hb4 (alloc_cell _ _ _ _ _ rfl)
      have HB4 := Lib.hid (Below.call (Below.al HB.out _) hb4)
      clear hb4
      go_wp2_with fail
      refine (HPA.out _).mono ?_
      rintro e w5 ⟨rfl, hb5⟩
      have HB5 := Lib.hid (Below.call HB4.out hb5)
      clear hb5
      go_wp2
      go_roundw
      case rel => exact ⟨k + 1, left - u.c * u.d, by omega, num_i (by omega), num_i (by omega), rfl, by unfold fits; omega, HF1.out, HB5.out⟩
      case measure => simp [intOf]; omega
   ·obtain rfl : k = us.length := by omega
    have HF1 := Lib.hid (show partU us id = (⟨0, 0, 0, 0⟩, 3) by rw [← HGO.out, List.drop_length]; rfl)
    obtain ⟨⟨r0, r1, r2, r3⟩, _⟩ := HG.out wr HB.out
    obtain ⟨_, ⟨q0, q1, q2, q3⟩, ⟨z0, z1, z2, z3⟩⟩ := HF.out wr HW.out
    go_wp2
    obtain ⟨y0, y1, y2, y3⟩ := st4 (.int .i64 0) (.int .i64 0) (.int .i64 0) (.int .i64 0) q0 q1 q2 q3
    have hb := below_st4 (.int .i64 0) (.int .i64 0) (.int .i64 0) (.int .i64 0) (Below.call HB0.out HW.out) (show w.heap.size ≤ w.heap.size + 1 by omega)
    rw [Exit.noGoto_ret]
    exact bodyPost_ret (v := .tuple #[.agg #[.int .i64 0, .int .i64 0, .int .i64 0, .int .i64 0], .int .i64 3]) (by simp [results, Tryd.results61, go_sem, y0, y1, y2, y3]) rfl ⟨by rw [HF1.out]; rfl, hb⟩
 ·have HP := Lib.hid (show partVal (partV d id) = .tuple #[.agg #[.int .i64 0, .int .i64 0, .int .i64 0, .int .i64 0], .int .i64 (dchk d)] by unfold partV; rw [if_neg hz]; rfl)
  have hz' : (dchk d != 0) = true := by rw [bne_iff_ne]; exact hz
  rw [HP.out]
  clear hz HP
  generalize dchk d = c at *
  go_enter Tryd.func61, Tryd.ntmps61
  go_wp2_with fail
  go_step3
  go_wp2_with fail
  rw [← hw0]
  clear hw0
  refine (HC.out _ HD0.out).mono ?_
  rintro e w1 ⟨rfl, hb1⟩
  obtain ⟨_, ⟨r0, r1, r2, r3⟩, ⟨z0, z1, z2, z3⟩⟩ := HF.out w1 hb1
  have HB1 := Lib.hid (Below.call HB0.out hb1)
  clear hb1
  go_wp2
  rw [Exit.noGoto_ret]
  obtain ⟨y0, y1, y2, y3⟩ := st4 (.int .i64 0) (.int .i64 0) (.int .i64 0) (.int .i64 0) r0 r1 r2 r3
  exact bodyPost_ret (v := .tuple #[.agg #[.int .i64 0, .int .i64 0, .int .i64 0, .int .i64 0], .int .i64 c]) (by simp [results, Tryd.results61, go_sem, y0, y1, y2, y3]) rfl ⟨rfl, below_st4 _ _ _ _ HB1.out (by omega)⟩
end Go.Proofs.YtmecohdedghiaaaDoor
namespace Go.Proofs.YtmecohdedghiaaaDoor
open Go.RowKit
noncomputable def cntV (d : Dk) : Int × Int × Int := if dchk d = 0 then (wellsV d.pl, tipsV d.rl, (d.bl.length : Int) - 1) else (0, 0, 0)
set_option maxRecDepth 100000 in
set_option maxHeartbeats 4000000 in
theorem counts_any (d : Dk) (w : World) (hd : d.In w w.heap.size) : Calls Tryd.prog 85 #[d.v] w fun e w' => e = .returned (.tuple #[.int .i64 (cntV d).1, .int .i64 (cntV d).2.1, .int .i64 (cntV d).2.2]) ∧ Below w.heap.size w w' := by
 have HC := Lib.hid (fun w h => dcheck_any d w h)
 have HP := Lib.hid (fun w h a b c e => places_any d w h a b c e)
 have HD := Lib.hid hd
 have hbn := hd.b.len
 obtain ⟨w0, hw0⟩ : ∃ w0, w0 = w.alloc (.cells #[.slice d.bA d.bn d.bc, .slice d.pA d.pn d.pc, .slice d.rA d.rn d.rc, .int .i64 d.arms] 26) := ⟨_, rfl⟩
 have HB0 := Lib.hid (show Below w.heap.size w w0 by rw [hw0]; exact Below.al (Below.refl _ _) _)
 have HD0 := Lib.hid (HD.out.then HB0.out)
 have HF := Lib.hid (show ∀ w1, Below w0.heap.size w0 w1 → (w1.cell? ⟨w.heap.size, 0, none⟩ = some (.slice d.bA d.bn d.bc) ∧ w1.cell? ⟨w.heap.size, 1, none⟩ = some (.slice d.pA d.pn d.pc) ∧ w1.cell? ⟨w.heap.size, 2, none⟩ = some (.slice d.rA d.rn d.rc) ∧ w1.cell? ⟨w.heap.size, 3, none⟩ = some (.int .i64 d.arms)) from by
   intro w1 hb
   refine ⟨keep_cell hb ?_, keep_cell hb ?_, keep_cell hb ?_, keep_cell hb ?_⟩
   all_goals (rw [hw0]; simp))
 by_cases hz : dchk d = 0
 ·have HOK := Lib.hid (dchk_ok d hz)
  have T : cntV d = (wellsV d.pl, tipsV d.rl, (d.bl.length : Int) - 1) := by unfold cntV; rw [if_pos hz]
  rw [T]
  rw [hz] at HC
  have b2 := HOK.out.rise.two
  have b3 := HOK.out.rise.most
  clear hz T hd
  dsimp only
  rw [← hbn] at b2 b3 ⊢
  clear hbn
  generalize wellsV d.pl = s at *
  generalize tipsV d.rl = t at *
  go_enter Tryd.func85, Tryd.ntmps85
  go_wp2_with fail
  rw [← hw0]
  clear hw0
  refine (HC.out _ HD0.out).mono ?_
  rintro e w1 ⟨rfl, hb1⟩
  obtain ⟨d0, d1, d2, d3⟩ := HF.out w1 hb1
  have HB1 := Lib.hid hb1
  clear hb1
  go_wp2_with fail
  refine (HP.out w1 (HD0.out.then HB1.out) HOK.out.p4 HOK.out.r4 (fun i hi => plate_size (HOK.out.pl i hi)) HOK.out.rl).mono ?_
  rintro e w2 ⟨rfl, hb2⟩
  have q0 := keep_cell hb2 d0
  have HB2 := Lib.hid (Below.call HB1.out hb2)
  clear hb2 d0 d1 d2 d3
  go_wp2_with fail
  go_quiet (fail)
  go_wp2
  go_ret3
  exact ⟨rfl, below_drewN (Below.call HB0.out HB2.out) _⟩
 ·have T : cntV d = (0, 0, 0) := by unfold cntV; rw [if_neg hz]
  rw [T]
  have hz' : (dchk d != 0) = true := by rw [bne_iff_ne]; exact hz
  clear T hz hd hbn
  generalize dchk d = c at *
  go_enter Tryd.func85, Tryd.ntmps85
  go_wp2_with fail
  rw [← hw0]
  clear hw0
  refine (HC.out _ HD0.out).mono ?_
  rintro e w1 ⟨rfl, hb1⟩
  have HB1 := Lib.hid hb1
  clear hb1
  go_wp2
  go_ret3
  exact ⟨rfl, Below.call HB0.out HB1.out⟩
end Go.Proofs.YtmecohdedghiaaaDoor
namespace Go.Proofs.YtmecohdedghiaaaDoor
open Go.RowKit
theorem unitF_at (u : Q4) (r c : Nat) (hc : c < u.d.toNat) : unitF u (r * u.d.toNat + c) = ⟨u.a, u.b, r, c⟩ := by
 unfold unitF
 have hd : (r * u.d.toNat + c) / u.d.toNat = r := by
  rw [Nat.mul_comm, Nat.mul_add_div (by omega), Nat.div_eq_of_lt hc, Nat.add_zero]
 have hm : (r * u.d.toNat + c) % u.d.toNat = c := by
  rw [Nat.mul_comm, Nat.mul_add_mod, Nat.mod_eq_of_lt hc]
 rw [hd, hm]
set_option maxRecDepth 100000 in
set_option maxHeartbeats 4000000 in
theorem rplaces_any (u : Q4) (hu : okU u) (w : World) : Calls Tryd.prog 81 #[.int .i64 u.a, .int .i64 u.b, .int .i64 u.c, .int .i64 u.d] w fun e w' => ∃ v, e = .returned v ∧ KQ.Own w' w.heap.size v (unitParts u) ∧ Below w.heap.size w w' := by
 obtain ⟨o1, o2, o3, o4, o5, o6, o7⟩ := okU_pos hu
 obtain ⟨s1, s2, s3, s4⟩ := size_of hu.2.2.2
 obtain ⟨k1, k2, k3, _⟩ := hu
 have fa : fits u.a := by unfold fits; omega
 have fb : fits u.b := by unfold fits; omega
 have HU := Lib.hid (show unitParts u = (List.range (u.c.toNat * u.d.toNat)).map (unitF u) from rfl)
 have HAT := Lib.hid (unitF_at u)
 have HFA := Lib.hid fa
 have HFB := Lib.hid fb
 obtain ⟨P, hP⟩ : ∃ P, P = unitParts u := ⟨_, rfl⟩
 obtain ⟨F, hF⟩ : ∃ F, F = unitF u := ⟨_, rfl⟩
 rw [← hP] at HU ⊢
 rw [← hF] at HU HAT
 clear hP hF k1 k2 k3 fa fb o5 o6 o7
 obtain ⟨a, b, c, d⟩ := u
 dsimp only at *
 obtain ⟨R, rfl⟩ : ∃ R : Nat, c = (R : Int) := ⟨c.toNat, by omega⟩
 obtain ⟨C, rfl⟩ : ∃ C : Nat, d = (C : Int) := ⟨d.toNat, by omega⟩
 simp only [Int.toNat_natCast] at *
 have hR : R ≤ 32 := by omega
 have hC : C ≤ 48 := by omega
 have HMX := Lib.hid (show ∀ r : Nat, r ≤ R → r * C ≤ 1536 from fun r hr => by
  have := Nat.mul_le_mul (show r ≤ 32 by omega) hC
  omega)
 clear s1 s2 s3 s4 o1 o2 o3 o4
 go_enter Tryd.func81, Tryd.ntmps81
 go_wp2
 go_loopw [9, 10] (fun v i wr => ∃ r : Nat, r ≤ R ∧ i = .int .i64 r ∧ KQ.Own wr w.heap.size v ((List.range (r * C)).map F) ∧ Below w.heap.size w wr) (fun _ i _ => R - (intOf i).toNat)
 case atStart => exact ⟨0, Nat.zero_le _, rfl, by rw [Nat.zero_mul]; exact Lk.Own.nil _ _, Below.refl _ _⟩
 case round =>
  obtain ⟨r, hr, rfl, hown, hbl⟩ := hrel
  have HO := Lib.hid hown
  have HB := Lib.hid hbl
  clear hown hbl
  by_cases hlt : r < R
  ·obtain ⟨v1, hv1⟩ : ∃ v, v = u9 := ⟨_, rfl⟩
   obtain ⟨w1, hw1⟩ : ∃ w1, w1 = wr := ⟨_, rfl⟩
   subst hw1
   rw [← hv1] at HO
   go_wp2
   go_loopw [9, 11] (fun v i wr => ∃ c : Nat, c ≤ C ∧ i = .int .i64 c ∧ KQ.Own wr w.heap.size v ((List.range (r * C + c)).map F) ∧ Below w.heap.size w wr) (fun _ i _ => C - (intOf i).toNat)
   case atStart => exact ⟨0, Nat.zero_le _, rfl, by rw [← hv1]; exact HO.out, HB.out⟩
   case round =>
    clear HO
    obtain ⟨c, hc, rfl, hown, hbl⟩ := hrel
    have HO := Lib.hid hown
    have HB2 := Lib.hid hbl
    clear hown hbl
    by_cases hlt2 : c < C
    ·have HS := Lib.hid (map_snoc F (r * C + c))
     rw [HAT.out r c hlt2] at HS
     have HOK := Lib.hid (show KQ.ok ⟨a, b, r, c⟩ from ⟨HFA.out, HFB.out, (show fits (r : Int) by unfold fits; omega), (show fits (c : Int) by unfold fits; omega)⟩)
     have HLN := Lib.hid (show ((List.range (r * C + c)).map F).length = r * C + c by simp)
     have hm := HMX.out r hr
     generalize (List.range (r * C + c)).map F = L at *
     go_wp2_with (at_builtin; refine Lk.wpList_app (K := KQ) _ rfl _ _ rfl rfl w.heap.size (wr.heap.size + 1) _ _ L [⟨a, b, r, c⟩] rfl rfl (HO.out.alloc _) (Lk.IsL.lit (K := KQ) _ ⟨a, b, r, c⟩ _ HOK.out rfl wr.heap.size rfl) ?c1 ?c2 ?_)
     case c1 => have := HLN.out; simp; omega
     case c2 => have := HB2.out.size; simp; omega
     intro v2 w3 hown hgrow _
     have HB3 := Lib.hid (Lk.Own.grow' (HO.out.alloc _) (Below.al HB2.out _) (by have := HB2.out.size; simp; omega) hgrow)
     have HO3 := Lib.hid hown
     clear hown hgrow
     go_wp2
     go_roundw
     case rel => exact ⟨c + 1, by omega, num_i (by omega), by rw [← Nat.add_assoc, HS.out]; exact HO3.out, HB3.out⟩
     case measure => simp [intOf]; omega
    ·obtain rfl : c = C := by omega
     go_wp2
     go_roundw
     case rel => exact ⟨r + 1, by omega, num_i (by omega), by rw [Nat.succ_mul]; exact HO.out, HB2.out⟩
     case measure => simp [intOf]; omega
  ·obtain rfl : r = R := by omega
   go_wp2
   go_ret
   exact ⟨_, rfl, by rw [HU.out]; exact HO.out, HB.out⟩
end Go.Proofs.YtmecohdedghiaaaDoor
namespace Go.Proofs.YtmecohdedghiaaaDoor
open Go.RowKit
noncomputable def partsK (d : Dk) : List Q4 := if dchk d = 0 then partsL d else []
theorem partsU_snoc (us : List Q4) (u : Q4) : partsU (us ++ [u]) = partsU us ++ unitParts u := by
 unfold partsU
 rw [List.flatMap_append]
 simp
theorem partsU_len (us : List Q4) (h : ∀ u ∈ us, okU u) : (partsU us).length ≤ 1536 * us.length := by
 induction us with
 | nil => simp [partsU]
 | cons u us ih =>
  rw [partsU_cons, List.length_append, unitParts_len, List.length_cons]
  have := (okU_pos (h u (by simp))).2.2.2.2.2.2
  have := ih (fun u hu => h u (by simp [hu]))
  omega
theorem lane_parts (i : Nat) : unitParts (laneU i) = [⟨3, i, 0, 0⟩] := by
 unfold unitParts unitN laneU unitF
 simp [List.range_succ]
theorem plateU_ok (d : Dk) (h : OkD d) (i : Nat) (hi : i < d.pl.length) : okU (plateU d.pl i) := by
 have := h.p4
 exact ⟨.inl rfl, show (0 : Int) ≤ (i : Int) by omega, show (i : Int) ≤ 23 by omega, plate_size (h.pl i hi)⟩
theorem rackU_ok (d : Dk) (h : OkD d) (i : Nat) (hi : i < d.rl.length) : okU (rackU d.rl i) := by
 have := h.r4
 exact ⟨.inr (.inl rfl), show (0 : Int) ≤ (i : Int) by omega, show (i : Int) ≤ 23 by omega, h.rl i hi⟩
theorem laneU_ok (i : Nat) (hi : i ≤ 23) : okU (laneU i) := ⟨.inr (.inr rfl), show (0 : Int) ≤ (i : Int) by omega, show (i : Int) ≤ 23 by omega, (by decide : sizeB 1 1 = true)⟩
theorem upto_ok {f : Nat → Q4} {n k : Nat} (h : ∀ i, i < n → okU (f i)) (hk : k ≤ n) : ∀ u ∈ (List.range k).map f, okU u := by
 intro u hu
 obtain ⟨i, hi, rfl⟩ := List.mem_map.1 hu
 exact h i (by have := List.mem_range.1 hi; omega)
set_option maxRecDepth 100000 in
set_option maxHeartbeats 4000000 in
theorem rparts_any (d : Dk) (w : World) (hd : d.In w w.heap.size) : Calls Tryd.prog 63 #[d.v] w fun e w' => ∃ v, e = .returned v ∧ KQ.Own w' w.heap.size v (partsK d) ∧ Below w.heap.size w w' := by
 have HC := Lib.hid (fun w h => rdcheck_any d w h)
 have HD := Lib.hid hd
 have hbn := Lib.hid hd.b.len
 have hpn := Lib.hid hd.p.len
 have hrn := Lib.hid hd.r.len
 obtain ⟨w0, hw0⟩ : ∃ w0, w0 = w.alloc (.cells #[.slice d.bA d.bn d.bc, .slice d.pA d.pn d.pc, .slice d.rA d.rn d.rc, .int .i64 d.arms] 26) := ⟨_, rfl⟩
 have HB0 := Lib.hid (show Below w.heap.size w w0 by rw [hw0]; exact Below.al (Below.refl _ _) _)
 have HD0 := Lib.hid (HD.out.then HB0.out)
 have HF := Lib.hid (show ∀ w1, Below w0.heap.size w0 w1 → (w1.cell? ⟨w.heap.size, 0, none⟩ = some (.slice d.bA d.bn d.bc) ∧ w1.cell? ⟨w.heap.size, 1, none⟩ = some (.slice d.pA d.pn d.pc) ∧ w1.cell? ⟨w.heap.size, 2, none⟩ = some (.slice d.rA d.rn d.rc) ∧ w1.cell? ⟨w.heap.size, 3, none⟩ = some (.int .i64 d.arms)) from by
   intro w1 hb
   refine ⟨keep_cell hb ?_, keep_cell hb ?_, keep_cell hb ?_, keep_cell hb ?_⟩
   all_goals (rw [hw0]; simp))
 by_cases hz : dchk d = 0
 ·have hok := dchk_ok d hz
  have HOK := Lib.hid hok
  have HP := Lib.hid (show partsK d = partsU ((List.range d.pl.length).map (plateU d.pl)) ++ partsU ((List.range d.rl.length).map (rackU d.rl)) ++ partsU ((List.range (d.bl.length - 1)).map laneU) by unfold partsK; rw [if_pos hz]; unfold partsL partsU unitsL; rw [List.flatMap_append, List.flatMap_append])
  obtain ⟨P, hP⟩ : ∃ P, P = partsK d := ⟨_, rfl⟩
  rw [← hP] at HP ⊢
  rw [hz] at HC
  have HPO := Lib.hid (plateU_ok d hok)
  have HRO := Lib.hid (rackU_ok d hok)
  have p4 := hok.p4
  have r4 := hok.r4
  have b2 := hok.rise.two
  have b3 := hok.rise.most
  clear hz hP hok hd
  rw [← hbn.out] at b2 b3 HP
  rw [← hpn.out] at p4 HP HPO
  rw [← hrn.out] at r4 HP HRO
  go_enter Tryd.func63, Tryd.ntmps63
  go_wp2_with fail
  rw [← hw0]
  clear hw0
  refine (HC.out _ HD0.out).mono ?_
  rintro e w1 ⟨rfl, hb1⟩
  have HB1 := Lib.hid hb1
  clear hb1
  go_wp2
  go_loopw [3, 4] (fun v i wr => ∃ k : Nat, k ≤ d.pn ∧ i = .int .i64 k ∧ KQ.Own wr w0.heap.size v (partsU ((List.range k).map (plateU d.pl))) ∧ Below w0.heap.size w0 wr) (fun _ i _ => d.pn - (intOf i).toNat)
  case atStart => exact ⟨0, Nat.zero_le _, rfl, Lk.Own.nil _ _, HB1.out⟩
  case round =>
   obtain ⟨k, hk, rfl, hown, hbl⟩ := hrel
   have HO := Lib.hid hown
   have HB := Lib.hid hbl
   clear hown hbl
   obtain ⟨f0, f1, f2, f3⟩ := HF.out wr HB.out
   by_cases hlt : k < d.pn
   ·obtain ⟨b, off, hA, hb, hc, hcell⟩ := plate_cells HD0.out.p (by have := hpn.out; omega)
    obtain ⟨e0, e1, _⟩ := hcell k (by have := hpn.out; omega)
    have HS := Lib.hid (show partsU ((List.range (k + 1)).map (plateU d.pl)) = partsU ((List.range k).map (plateU d.pl)) ++ unitParts (plateU d.pl k) by rw [map_snoc, partsU_snoc])
    have hu : plateU d.pl k = ⟨1, k, (d.pl.getD k KP.dflt).rows, (d.pl.getD k KP.dflt).cols⟩ := rfl
    have ho := HPO.out k hlt
    rw [hu] at HS ho
    have HUP := Lib.hid (rplaces_any _ ho)
    have HLN := Lib.hid (show (partsU ((List.range k).map (plateU d.pl))).length ≤ 1536 * 4 by
     have := partsU_len _ (upto_ok (f := plateU d.pl) (n := d.pn) (fun i hi => HPO.out i hi) hk)
     simp at this
     omega)
    have HUL := Lib.hid (show (unitParts ⟨1, k, (d.pl.getD k KP.dflt).rows, (d.pl.getD k KP.dflt).cols⟩).length ≤ 1536 by rw [unitParts_len]; exact (okU_pos ho).2.2.2.2.2.2)
    rw [hA] at f1
    clear hcell hu ho f0 f2 f3
    dsimp only at HUP
    generalize d.pl.getD k KP.dflt = q at *
    generalize partsU ((List.range k).map (plateU d.pl)) = L at *
    have HSS := Lib.hid (show ∀ w', Below w0.heap.size w0 w' → w'.cell? ⟨w.heap.size, 1, none⟩ = some (.slice (some ⟨b, off, none⟩) d.pn d.pc) ∧ w'.cell? ⟨b, off + k * 7, none⟩ = some (.int .i64 q.rows) ∧ w'.cell? ⟨b, off + k * 7 + 1, none⟩ = some (.int .i64 q.cols) from fun w' hb => ⟨by rw [← hA]; exact (HF.out w' hb).2.1, keep_cell hb e0, keep_cell hb e1⟩)
    obtain ⟨g0, g1, g2⟩ := HSS.out wr HB.out
    clear e0 e1 hA
    go_wp2_with fail
    refine wp_region_held_drew (S := fun w' => w'.cell? ⟨w.heap.size, 1, none⟩ = some (.slice (some ⟨b, off, none⟩) d.pn d.pc) ∧ w'.cell? ⟨b, off + k * 7, none⟩ = some (.int .i64 q.rows) ∧ w'.cell? ⟨b, off + k * 7 + 1, none⟩ = some (.int .i64 q.cols)) (by kernel_rfl) ?_ (fun hHeld => ?_)
    ·exact ⟨g0, g1, g2⟩
    refine wpAnyH_take (i := 0) (oi := ⟨some 18, _, _, _, _, _⟩) (v := ?_) rfl (by kernel_rfl) (by kernel_rfl) (by kernel_rfl) (fun _ _ _ h => h) (Or.inl ⟨by kernel_rfl, ?_⟩) (by assumption) ?_
    rotate_left 1
    ·((intro w hSw; (try dsimp only at hSw); go_simp) <;> (try with_reducible rfl))
    (try simp only [Act.put, List.setIfInBounds_toArray, List.set_cons_zero, List.set_cons_succ])
    refine wpAnyH_take (i := 1) (oi := ⟨some 19, _, _, _, _, _⟩) (v := ?_) rfl (by kernel_rfl) (by kernel_rfl) (by kernel_rfl) (fun _ _ _ h => h) (Or.inl ⟨by kernel_rfl, ?_⟩) (by assumption) ?_
    rotate_left 1
    ·((intro w hSw; (try dsimp only at hSw); go_simp) <;> (try with_reducible rfl))
    (try simp only [Act.put, List.setIfInBounds_toArray, List.set_cons_zero, List.set_cons_succ])
    refine wpAnyH_take (i := 2) (oi := ⟨some 20, _, _, _, _, _⟩) (v := ?_) rfl (by kernel_rfl) (by kernel_rfl) (by kernel_rfl) (fun _ _ _ h => h) (Or.inl ⟨by kernel_rfl, ?_⟩) (by assumption) ?_
    rotate_left 1
    ·((intro w hSw; (try dsimp only at hSw); go_simp) <;> (try with_reducible rfl))
    (try simp only [Act.put, List.setIfInBounds_toArray, List.set_cons_zero, List.set_cons_succ])
    refine wpAnyH_take (i := 3) (oi := ⟨some 21, _, _, _, _, _⟩) (v := ?_) rfl (by kernel_rfl) (by kernel_rfl) (by kernel_rfl) (fun _ _ _ h => h) (Or.inl ⟨by kernel_rfl, ?_⟩) (by assumption) ?_
    rotate_left 1
    ·((intro w hSw; (try dsimp only at hSw); go_simp) <;> (try with_reducible rfl))
    (try simp only [Act.put, List.setIfInBounds_toArray, List.set_cons_zero, List.set_cons_succ])
    refine wpAnyH_take (i := 4) (oi := ⟨some 22, _, _, _, _, _⟩) (v := ?_) rfl (by kernel_rfl) (by kernel_rfl) (by kernel_rfl) (fun _ _ _ h => h) (Or.inl ⟨by kernel_rfl, ?_⟩) (by assumption) ?_
    rotate_left 1
    ·((intro w hSw; (try dsimp only at hSw); go_simp) <;> (try with_reducible rfl))
    (try simp only [Act.put, List.setIfInBounds_toArray, List.set_cons_zero, List.set_cons_succ])
    refine wpAnyH_take (i := 5) (oi := ⟨some 23, _, _, _, _, _⟩) (v := ?_) rfl (by kernel_rfl) (by kernel_rfl) (by kernel_rfl) (fun _ _ _ h => h) (Or.inl ⟨by kernel_rfl, ?_⟩) (by assumption) ?_
    rotate_left 1
    ·((intro w hSw; (try dsimp only at hSw); go_simp) <;> (try with_reducible rfl))
    (try simp only [Act.put, List.setIfInBounds_toArray, List.set_cons_zero, List.set_cons_succ])
    refine wpAnyH_take (i := 6) (oi := ⟨some 24, _, _, _, _, _⟩) (v := ?_) rfl (by kernel_rfl) (by kernel_rfl) (by kernel_rfl) (fun _ _ _ h => h) (Or.inl ⟨by kernel_rfl, ?_⟩) (by assumption) ?_
    rotate_left 1
    ·((intro w hSw; (try dsimp only at hSw); go_simp) <;> (try with_reducible rfl))
    (try simp only [Act.put, List.setIfInBounds_toArray, List.set_cons_zero, List.set_cons_succ])
    refine wpAnyH_take (i := 7) (oi := ⟨some 25, _, _, _, _, _⟩) (v := ?_) rfl (by kernel_rfl) (by kernel_rfl) (by kernel_rfl) (fun _ _ _ h => h) (Or.inl ⟨by kernel_rfl, ?_⟩) (by assumption) ?_
    rotate_left 1
    ·((intro w hSw; (try dsimp only at hSw); go_simp) <;> (try with_reducible rfl))
    (try simp only [Act.put, List.setIfInBounds_toArray, List.set_cons_zero, List.set_cons_succ])
    refine wpAnyH_take (i := 8) (oi := ⟨some 26, _, _, _, _, _⟩) (v := ?_) rfl (by kernel_rfl) (by kernel_rfl) (by kernel_rfl) (fun _ _ _ h => h) (Or.inl ⟨by kernel_rfl, ?_⟩) (by assumption) ?_
    rotate_left 1
    ·((intro w hSw; (try dsimp only at hSw); go_simp) <;> (try with_reducible rfl))
    (try simp only [Act.put, List.setIfInBounds_toArray, List.set_cons_zero, List.set_cons_succ])
    refine wpAnyH_take (i := 9) (oi := ⟨some 27, _, _, _, _, _⟩) (v := ?_) rfl (by kernel_rfl) (by kernel_rfl) (by kernel_rfl) (fun _ _ _ h => h) (Or.inl ⟨by kernel_rfl, ?_⟩) (by assumption) ?_
    rotate_left 1
    ·((intro w hSw; (try dsimp only at hSw); go_simp) <;> (try with_reducible rfl))
    (try simp only [Act.put, List.setIfInBounds_toArray, List.set_cons_zero, List.set_cons_succ])
    refine wpAnyH_take (i := 10) (oi := ⟨some 28, _, _, _, _, _⟩) (v := ?_) rfl (by kernel_rfl) (by kernel_rfl) (by kernel_rfl) (fun _ _ _ h => h) (Or.inl ⟨by kernel_rfl, ?_⟩) (by assumption) ?_
    rotate_left 1
    ·((intro w hSw; (try dsimp only at hSw); go_simp) <;> (try with_reducible rfl))
    (try simp only [Act.put, List.setIfInBounds_toArray, List.set_cons_zero, List.set_cons_succ])
    refine wpAnyH_take (i := 11) (oi := ⟨some 29, _, _, _, _, _⟩) (v := ?_) rfl (by kernel_rfl) (by kernel_rfl) (by kernel_rfl) (fun _ _ _ h => h) (Or.inl ⟨by kernel_rfl, ?_⟩) (by assumption) ?_
    rotate_left 1
    ·((intro w hSw; (try dsimp only at hSw); go_simp) <;> (try with_reducible rfl))
    (try simp only [Act.put, List.setIfInBounds_toArray, List.set_cons_zero, List.set_cons_succ])
    refine wpAnyH_take (i := 12) (oi := ⟨some 30, _, _, _, _, _⟩) (v := ?_) rfl (by kernel_rfl) (by kernel_rfl) (by kernel_rfl) (fun _ _ _ h => h) (Or.inl ⟨by kernel_rfl, ?_⟩) (by assumption) ?_
    rotate_left 1
    ·((intro w hSw; (try dsimp only at hSw); go_simp) <;> (try with_reducible rfl))
    (try simp only [Act.put, List.setIfInBounds_toArray, List.set_cons_zero, List.set_cons_succ])
    refine wpAnyH_take (i := 13) (oi := ⟨some 31, _, _, _, _, _⟩) (v := ?_) rfl (by kernel_rfl) (by kernel_rfl) (by kernel_rfl) (fun _ _ _ h => h) (Or.inl ⟨by kernel_rfl, ?_⟩) (by assumption) ?_
    rotate_left 1
    ·((intro w hSw; (try dsimp only at hSw); go_simp) <;> (try with_reducible rfl))
    (try simp only [Act.put, List.setIfInBounds_toArray, List.set_cons_zero, List.set_cons_succ])
    clear g0 g1 g2
    have HO1 := Lib.hid (show KQ.Own wr.drew w0.heap.size _ L from HO.out.drew)
    have HB1' := Lib.hid (show Below w0.heap.size w0 wr.drew from HB.out.drew)
    generalize wr.drew = w2 at *
    refine wpAnyH_ready (rs := [14]) (by kernel_rfl) (by simp) ?_
    refine AllReadyH.cons (o := ⟨some 32, _, _, _, _, _⟩) rfl (fun K hK => ?_) AllReadyH.nil
    go_simp
    refine (HUP.out _).mono ?_
    rintro e w3 ⟨v3, rfl, hown3, hb3⟩
    have HO3 := Lib.hid (HO1.out.below hb3)
    have HI3 := Lib.hid (hown3.isL (by have := HUL.out; omega))
    have HB3 := Lib.hid (Below.call HB1'.out hb3)
    clear hown3 hb3
    go_wp2_with fail
    refine hK.out _ _ ?_ (fun hHeld => ?_)
    ·exact HSS.out w3 HB3.out
    clear hK K
    (try simp only [Act.put, List.setIfInBounds_toArray, List.set_cons_zero, List.set_cons_succ])
    refine wpAnyH_ready (rs := [15]) (by kernel_rfl) (by simp) ?_
    refine AllReadyH.cons (o := ⟨some 33, _, _, _, _, _⟩) rfl (fun K hK => ?_) AllReadyH.nil
    refine Lk.wp_app (K := KQ) w3 _ _ rfl rfl w0.heap.size w3.heap.size _ v3 L _ rfl rfl HO3.out HI3.out ?_ HB3.out.size ?_
    ·have := HLN.out; have := HUL.out; omega
    intro v4 w4 hown4 hgr4 _
    have HO4 := Lib.hid hown4
    have HB4 := Lib.hid (Lk.Own.grow' HO3.out HB3.out HB3.out.size hgr4)
    clear hown4 hgr4
    refine hK.out _ _ ?_ (fun hHeld => ?_)
    ·exact HSS.out w4 HB4.out
    clear hK K
    (try simp only [Act.put, List.setIfInBounds_toArray, List.set_cons_zero, List.set_cons_succ])
    refine wpAnyH_take (i := 16) (oi := ⟨some 3, _, _, _, _, _⟩) (v := ?_) rfl (by kernel_rfl) (by kernel_rfl) (by kernel_rfl) (fun _ _ _ h => h) (Or.inl ⟨by kernel_rfl, ?_⟩) (by assumption) ?_
    rotate_left 1
    ·((intro w hSw; (try dsimp only at hSw); go_simp) <;> (try with_reducible rfl))
    (try simp only [Act.put, List.setIfInBounds_toArray, List.set_cons_zero, List.set_cons_succ])
    refine wpAnyH_done (by kernel_rfl) ?_ _
    go_wp2
    go_roundw
    case rel => exact ⟨k + 1, by omega, num_i (by omega), by rw [HS.out]; exact HO4.out, HB4.out⟩
    case measure => simp [intOf]; omega
   ·obtain rfl : k = d.pn := by omega
    have HLA := Lib.hid (show (partsU ((List.range d.pn).map (plateU d.pl))).length ≤ 1536 * 4 by
     have := partsU_len _ (upto_ok (f := plateU d.pl) (n := d.pn) (fun i hi => HPO.out i hi) (Nat.le_refl _))
     simp at this
     omega)
    obtain ⟨PA, hPA⟩ : ∃ PA, PA = partsU ((List.range d.pn).map (plateU d.pl)) := ⟨_, rfl⟩
    rw [← hPA] at HP HO HLA
    clear hPA
    obtain ⟨w1, hw1⟩ : ∃ w1, w1 = wr := ⟨_, rfl⟩
    subst hw1
    obtain ⟨va, hva⟩ : ∃ v, v = u3 := ⟨_, rfl⟩
    rw [← hva] at HO
    go_wp2
    clear f0 f1 f2 f3
    go_loopw [3, 5] (fun v i wr => ∃ k : Nat, k ≤ d.rn ∧ i = .int .i64 k ∧ KQ.Own wr w0.heap.size v (PA ++ partsU ((List.range k).map (rackU d.rl))) ∧ Below w0.heap.size w0 wr) (fun _ i _ => d.rn - (intOf i).toNat)
    case atStart => exact ⟨0, Nat.zero_le _, rfl, by rw [← hva]; simpa [partsU] using HO.out, HB.out⟩
    case round =>
     clear HO
     obtain ⟨k, hk, rfl, hown, hbl⟩ := hrel
     have HO := Lib.hid hown
     have HB2 := Lib.hid hbl
     clear hown hbl
     obtain ⟨f0, f1, f2, f3⟩ := HF.out wr HB2.out
     by_cases hlt : k < d.rn
     ·obtain ⟨b, off, hA, hb, hc, hcell⟩ := rack_cells HD0.out.r (by have := hrn.out; omega)
      obtain ⟨e0, e1, _⟩ := hcell k (by have := hrn.out; omega)
      have HS := Lib.hid (show PA ++ partsU ((List.range (k + 1)).map (rackU d.rl)) = (PA ++ partsU ((List.range k).map (rackU d.rl))) ++ unitParts (rackU d.rl k) by rw [map_snoc, partsU_snoc, List.append_assoc])
      have hu : rackU d.rl k = ⟨2, k, (d.rl.getD k KR.dflt).rows, (d.rl.getD k KR.dflt).cols⟩ := rfl
      have ho := HRO.out k hlt
      rw [hu] at HS ho
      have HUP := Lib.hid (rplaces_any _ ho)
      have HLN := Lib.hid (show (PA ++ partsU ((List.range k).map (rackU d.rl))).length ≤ 1536 * 8 by
       have := partsU_len _ (upto_ok (f := rackU d.rl) (n := d.rn) (fun i hi => HRO.out i hi) hk)
       have h2 := HLA.out
       rw [List.length_append]
       simp at this
       omega)
      have HUL := Lib.hid (show (unitParts ⟨2, k, (d.rl.getD k KR.dflt).rows, (d.rl.getD k KR.dflt).cols⟩).length ≤ 1536 by rw [unitParts_len]; exact (okU_pos ho).2.2.2.2.2.2)
      rw [hA] at f2
      clear hcell hu ho f0 f1 f3
      dsimp only at HUP
      generalize d.rl.getD k KR.dflt = q at *
      generalize PA ++ partsU ((List.range k).map (rackU d.rl)) = L at *
      have HSS := Lib.hid (show ∀ w', Below w0.heap.size w0 w' → w'.cell? ⟨w.heap.size, 2, none⟩ = some (.slice (some ⟨b, off, none⟩) d.rn d.rc) ∧ w'.cell? ⟨b, off + k * 5, none⟩ = some (.int .i64 q.rows) ∧ w'.cell? ⟨b, off + k * 5 + 1, none⟩ = some (.int .i64 q.cols) from fun w' hb => ⟨by rw [← hA]; exact (HF.out w' hb).2.2.1, keep_cell hb e0, keep_cell hb e1⟩)
      obtain ⟨g0, g1, g2⟩ := HSS.out wr HB2.out
      clear e0 e1 hA
      go_wp2_with fail
      refine wp_region_held_drew (S := fun w' => w'.cell? ⟨w.heap.size, 2, none⟩ = some (.slice (some ⟨b, off, none⟩) d.rn d.rc) ∧ w'.cell? ⟨b, off + k * 5, none⟩ = some (.int .i64 q.rows) ∧ w'.cell? ⟨b, off + k * 5 + 1, none⟩ = some (.int .i64 q.cols)) (by kernel_rfl) ?_ (fun hHeld => ?_)
      ·exact ⟨g0, g1, g2⟩
      refine wpAnyH_take (i := 0) (oi := ⟨some 41, _, _, _, _, _⟩) (v := ?_) rfl (by kernel_rfl) (by kernel_rfl) (by kernel_rfl) (fun _ _ _ h => h) (Or.inl ⟨by kernel_rfl, ?_⟩) (by assumption) ?_
      rotate_left 1
      ·((intro w hSw; (try dsimp only at hSw); go_simp) <;> (try with_reducible rfl))
      (try simp only [Act.put, List.setIfInBounds_toArray, List.set_cons_zero, List.set_cons_succ])
      refine wpAnyH_take (i := 1) (oi := ⟨some 42, _, _, _, _, _⟩) (v := ?_) rfl (by kernel_rfl) (by kernel_rfl) (by kernel_rfl) (fun _ _ _ h => h) (Or.inl ⟨by kernel_rfl, ?_⟩) (by assumption) ?_
      rotate_left 1
      ·((intro w hSw; (try dsimp only at hSw); go_simp) <;> (try with_reducible rfl))
      (try simp only [Act.put, List.setIfInBounds_toArray, List.set_cons_zero, List.set_cons_succ])
      refine wpAnyH_take (i := 2) (oi := ⟨some 43, _, _, _, _, _⟩) (v := ?_) rfl (by kernel_rfl) (by kernel_rfl) (by kernel_rfl) (fun _ _ _ h => h) (Or.inl ⟨by kernel_rfl, ?_⟩) (by assumption) ?_
      rotate_left 1
      ·((intro w hSw; (try dsimp only at hSw); go_simp) <;> (try with_reducible rfl))
      (try simp only [Act.put, List.setIfInBounds_toArray, List.set_cons_zero, List.set_cons_succ])
      refine wpAnyH_take (i := 3) (oi := ⟨some 44, _, _, _, _, _⟩) (v := ?_) rfl (by kernel_rfl) (by kernel_rfl) (by kernel_rfl) (fun _ _ _ h => h) (Or.inl ⟨by kernel_rfl, ?_⟩) (by assumption) ?_
      rotate_left 1
      ·((intro w hSw; (try dsimp only at hSw); go_simp) <;> (try with_reducible rfl))
      (try simp only [Act.put, List.setIfInBounds_toArray, List.set_cons_zero, List.set_cons_succ])
      refine wpAnyH_take (i := 4) (oi := ⟨some 45, _, _, _, _, _⟩) (v := ?_) rfl (by kernel_rfl) (by kernel_rfl) (by kernel_rfl) (fun _ _ _ h => h) (Or.inl ⟨by kernel_rfl, ?_⟩) (by assumption) ?_
      rotate_left 1
      ·((intro w hSw; (try dsimp only at hSw); go_simp) <;> (try with_reducible rfl))
      (try simp only [Act.put, List.setIfInBounds_toArray, List.set_cons_zero, List.set_cons_succ])
      refine wpAnyH_take (i := 5) (oi := ⟨some 46, _, _, _, _, _⟩) (v := ?_) rfl (by kernel_rfl) (by kernel_rfl) (by kernel_rfl) (fun _ _ _ h => h) (Or.inl ⟨by kernel_rfl, ?_⟩) (by assumption) ?_
      rotate_left 1
      ·((intro w hSw; (try dsimp only at hSw); go_simp) <;> (try with_reducible rfl))
      (try simp only [Act.put, List.setIfInBounds_toArray, List.set_cons_zero, List.set_cons_succ])
      refine wpAnyH_take (i := 6) (oi := ⟨some 47, _, _, _, _, _⟩) (v := ?_) rfl (by kernel_rfl) (by kernel_rfl) (by kernel_rfl) (fun _ _ _ h => h) (Or.inl ⟨by kernel_rfl, ?_⟩) (by assumption) ?_
      rotate_left 1
      ·((intro w hSw; (try dsimp only at hSw); go_simp) <;> (try with_reducible rfl))
      (try simp only [Act.put, List.setIfInBounds_toArray, List.set_cons_zero, List.set_cons_succ])
      refine wpAnyH_take (i := 7) (oi := ⟨some 48, _, _, _, _, _⟩) (v := ?_) rfl (by kernel_rfl) (by kernel_rfl) (by kernel_rfl) (fun _ _ _ h => h) (Or.inl ⟨by kernel_rfl, ?_⟩) (by assumption) ?_
      rotate_left 1
      ·((intro w hSw; (try dsimp only at hSw); go_simp) <;> (try with_reducible rfl))
      (try simp only [Act.put, List.setIfInBounds_toArray, List.set_cons_zero, List.set_cons_succ])
      refine wpAnyH_take (i := 8) (oi := ⟨some 49, _, _, _, _, _⟩) (v := ?_) rfl (by kernel_rfl) (by kernel_rfl) (by kernel_rfl) (fun _ _ _ h => h) (Or.inl ⟨by kernel_rfl, ?_⟩) (by assumption) ?_
      rotate_left 1
      ·((intro w hSw; (try dsimp only at hSw); go_simp) <;> (try with_reducible rfl))
      (try simp only [Act.put, List.setIfInBounds_toArray, List.set_cons_zero, List.set_cons_succ])
      refine wpAnyH_take (i := 9) (oi := ⟨some 50, _, _, _, _, _⟩) (v := ?_) rfl (by kernel_rfl) (by kernel_rfl) (by kernel_rfl) (fun _ _ _ h => h) (Or.inl ⟨by kernel_rfl, ?_⟩) (by assumption) ?_
      rotate_left 1
      ·((intro w hSw; (try dsimp only at hSw); go_simp) <;> (try with_reducible rfl))
      (try simp only [Act.put, List.setIfInBounds_toArray, List.set_cons_zero, List.set_cons_succ])
      refine wpAnyH_take (i := 10) (oi := ⟨some 51, _, _, _, _, _⟩) (v := ?_) rfl (by kernel_rfl) (by kernel_rfl) (by kernel_rfl) (fun _ _ _ h => h) (Or.inl ⟨by kernel_rfl, ?_⟩) (by assumption) ?_
      rotate_left 1
      ·((intro w hSw; (try dsimp only at hSw); go_simp) <;> (try with_reducible rfl))
      (try simp only [Act.put, List.setIfInBounds_toArray, List.set_cons_zero, List.set_cons_succ])
      refine wpAnyH_take (i := 11) (oi := ⟨some 52, _, _, _, _, _⟩) (v := ?_) rfl (by kernel_rfl) (by kernel_rfl) (by kernel_rfl) (fun _ _ _ h => h) (Or.inl ⟨by kernel_rfl, ?_⟩) (by assumption) ?_
      rotate_left 1
      ·((intro w hSw; (try dsimp only at hSw); go_simp) <;> (try with_reducible rfl))
      (try simp only [Act.put, List.setIfInBounds_toArray, List.set_cons_zero, List.set_cons_succ])
      refine wpAnyH_take (i := 12) (oi := ⟨some 53, _, _, _, _, _⟩) (v := ?_) rfl (by kernel_rfl) (by kernel_rfl) (by kernel_rfl) (fun _ _ _ h => h) (Or.inl ⟨by kernel_rfl, ?_⟩) (by assumption) ?_
      rotate_left 1
      ·((intro w hSw; (try dsimp only at hSw); go_simp) <;> (try with_reducible rfl))
      (try simp only [Act.put, List.setIfInBounds_toArray, List.set_cons_zero, List.set_cons_succ])
      refine wpAnyH_take (i := 13) (oi := ⟨some 54, _, _, _, _, _⟩) (v := ?_) rfl (by kernel_rfl) (by kernel_rfl) (by kernel_rfl) (fun _ _ _ h => h) (Or.inl ⟨by kernel_rfl, ?_⟩) (by assumption) ?_
      rotate_left 1
      ·((intro w hSw; (try dsimp only at hSw); go_simp) <;> (try with_reducible rfl))
      (try simp only [Act.put, List.setIfInBounds_toArray, List.set_cons_zero, List.set_cons_succ])
      clear g0 g1 g2
      have HO1 := Lib.hid (show KQ.Own wr.drew w0.heap.size _ L from HO.out.drew)
      have HB1' := Lib.hid (show Below w0.heap.size w0 wr.drew from HB2.out.drew)
      generalize wr.drew = w2 at *
      refine wpAnyH_ready (rs := [14]) (by kernel_rfl) (by simp) ?_
      refine AllReadyH.cons (o := ⟨some 55, _, _, _, _, _⟩) rfl (fun K hK => ?_) AllReadyH.nil
      go_simp
      refine (HUP.out _).mono ?_
      rintro e w3 ⟨v3, rfl, hown3, hb3⟩
      have HO3 := Lib.hid (HO1.out.below hb3)
      have HI3 := Lib.hid (hown3.isL (by have := HUL.out; omega))
      have HB3 := Lib.hid (Below.call HB1'.out hb3)
      clear hown3 hb3
      go_wp2_with fail
      refine hK.out _ _ ?_ (fun hHeld => ?_)
      ·exact HSS.out w3 HB3.out
      clear hK K
      (try simp only [Act.put, List.setIfInBounds_toArray, List.set_cons_zero, List.set_cons_succ])
      refine wpAnyH_ready (rs := [15]) (by kernel_rfl) (by simp) ?_
      refine AllReadyH.cons (o := ⟨some 56, _, _, _, _, _⟩) rfl (fun K hK => ?_) AllReadyH.nil
      refine Lk.wp_app (K := KQ) w3 _ _ rfl rfl w0.heap.size w3.heap.size _ v3 L _ rfl rfl HO3.out HI3.out ?_ HB3.out.size ?_
      ·have := HLN.out; have := HUL.out; omega
      intro v4 w4 hown4 hgr4 _
      have HO4 := Lib.hid hown4
      have HB4 := Lib.hid (Lk.Own.grow' HO3.out HB3.out HB3.out.size hgr4)
      clear hown4 hgr4
      refine hK.out _ _ ?_ (fun hHeld => ?_)
      ·exact HSS.out w4 HB4.out
      clear hK K
      (try simp only [Act.put, List.setIfInBounds_toArray, List.set_cons_zero, List.set_cons_succ])
      refine wpAnyH_take (i := 16) (oi := ⟨some 3, _, _, _, _, _⟩) (v := ?_) rfl (by kernel_rfl) (by kernel_rfl) (by kernel_rfl) (fun _ _ _ h => h) (Or.inl ⟨by kernel_rfl, ?_⟩) (by assumption) ?_
      rotate_left 1
      ·((intro w hSw; (try dsimp only at hSw); go_simp) <;> (try with_reducible rfl))
      (try simp only [Act.put, List.setIfInBounds_toArray, List.set_cons_zero, List.set_cons_succ])
      refine wpAnyH_done (by kernel_rfl) ?_ _
      go_wp2
      go_roundw
      case rel => exact ⟨k + 1, by omega, num_i (by omega), by rw [HS.out]; exact HO4.out, HB4.out⟩
      case measure => simp [intOf]; omega
     ·obtain rfl : k = d.rn := by omega
      have HLB := Lib.hid (show (PA ++ partsU ((List.range d.rn).map (rackU d.rl))).length ≤ 1536 * 8 by
       have := partsU_len _ (upto_ok (f := rackU d.rl) (n := d.rn) (fun i hi => HRO.out i hi) (Nat.le_refl _))
       have h2 := HLA.out
       rw [List.length_append]
       simp at this
       omega)
      obtain ⟨PB, hPB⟩ : ∃ PB, PB = PA ++ partsU ((List.range d.rn).map (rackU d.rl)) := ⟨_, rfl⟩
      rw [← hPB] at HP HO HLB
      clear hPB
      obtain ⟨w2, hw2⟩ : ∃ w2, w2 = wr := ⟨_, rfl⟩
      subst hw2
      obtain ⟨vb, hvb⟩ : ∃ v, v = u3 := ⟨_, rfl⟩
      rw [← hvb] at HO
      go_wp2
      clear f0 f1 f2 f3
      go_loopw [3, 6] (fun v i wr => ∃ k : Nat, k ≤ d.bn - 1 ∧ i = .int .i64 k ∧ KQ.Own wr w0.heap.size v (PB ++ partsU ((List.range k).map laneU)) ∧ Below w0.heap.size w0 wr) (fun _ i _ => d.bn - (intOf i).toNat)
      case atStart => exact ⟨0, by omega, rfl, by rw [← hvb]; simpa [partsU] using HO.out, HB2.out⟩
      case round =>
       clear HO
       obtain ⟨k, hk, rfl, hown, hbl⟩ := hrel
       have HO := Lib.hid hown
       have HB3 := Lib.hid hbl
       clear hown hbl
       obtain ⟨f0, f1, f2, f3⟩ := HF.out wr HB3.out
       by_cases hlt : k < d.bn - 1
       ·have HS := Lib.hid (show PB ++ partsU ((List.range (k + 1)).map laneU) = (PB ++ partsU ((List.range k).map laneU)) ++ [⟨3, k, 0, 0⟩] by rw [map_snoc, partsU_snoc, lane_parts, List.append_assoc])
        have HOK := Lib.hid (show KQ.ok ⟨3, k, 0, 0⟩ from ⟨(by decide : fits 3), (show fits (k : Int) by unfold fits; omega), (by decide : fits 0), (by decide : fits 0)⟩)
        have HLN := Lib.hid (show (PB ++ partsU ((List.range k).map laneU)).length ≤ 1536 * 8 + 1536 * 25 by
         have := partsU_len _ (upto_ok (f := laneU) (n := k) (fun i hi => laneU_ok i (by omega)) (Nat.le_refl _))
         have h2 := HLB.out
         rw [List.length_append]
         simp at this
         omega)
        generalize PB ++ partsU ((List.range k).map laneU) = L at *
        go_wp2_with (at_builtin; refine Lk.wpList_app (K := KQ) _ rfl _ _ rfl rfl w0.heap.size (wr.heap.size + 1) _ _ L [⟨3, k, 0, 0⟩] rfl rfl (HO.out.alloc _) (Lk.IsL.lit (K := KQ) _ ⟨3, k, 0, 0⟩ _ HOK.out rfl wr.heap.size rfl) ?c1 ?c2 ?_)
        case c1 => have := HLN.out; simp; omega
        case c2 => have := HB3.out.size; simp; omega
        intro v1 w4 hown hgrow _
        have HB4 := Lib.hid (Lk.Own.grow' (HO.out.alloc _) (Below.al HB3.out _) (by have := HB3.out.size; simp; omega) hgrow)
        have HO4 := Lib.hid hown
        clear hown hgrow
        go_wp2
        go_roundw
        case rel => exact ⟨k + 1, by omega, num_i (by omega), by rw [HS.out]; exact HO4.out, HB4.out⟩
        case measure => simp [intOf]; omega
       ·have hke : k = d.bn - 1 := by omega
        have HKE := Lib.hid hke
        have hk1 : (d.bn : Int) - 1 ≤ k := by omega
        clear hke
        go_wp2
        go_ret
        exact ⟨_, rfl, by rw [HP.out, ← HKE.out]; exact HO.out.mono HB0.out.size, Below.call HB0.out HB3.out⟩
 ·have T : partsK d = [] := by unfold partsK; rw [if_neg hz]
  rw [T]
  have hz' : (dchk d != 0) = true := by rw [bne_iff_ne]; exact hz
  clear T hz hd
  generalize dchk d = c at *
  go_enter Tryd.func63, Tryd.ntmps63
  go_wp2_with fail
  rw [← hw0]
  clear hw0
  refine (HC.out _ HD0.out).mono ?_
  rintro e w1 ⟨rfl, hb1⟩
  have HB1 := Lib.hid hb1
  clear hb1
  go_wp2
  go_ret
  exact ⟨_, rfl, Lk.Own.nil _ _, Below.call HB0.out HB1.out⟩
end Go.Proofs.YtmecohdedghiaaaDoor
namespace Go.Proofs.YtmecohdedghiaaaDoor
open Go.RowKit
/-- A part as it may be. -/
def okP (p : Q4) : Prop := (p.a = 1 ∨ p.a = 2 ∨ p.a = 3) ∧ 0 ≤ p.b ∧ p.b ≤ 23 ∧ 0 ≤ p.c ∧ p.c ≤ 31 ∧ 0 ≤ p.d ∧ p.d ≤ 47 ∧ (p.a = 3 → p.c = 0 ∧ p.d = 0)
theorem unit_okP (u : Q4) (hu : okU u) (hl : u.a = 3 → u.c = 1 ∧ u.d = 1) : ∀ p ∈ unitParts u, okP p := by
 obtain ⟨o1, o2, o3, o4, o5, o6, o7⟩ := okU_pos hu
 obtain ⟨s1, s2, s3, s4⟩ := size_of hu.2.2.2
 intro p hp
 unfold unitParts at hp
 obtain ⟨i, hi, rfl⟩ := List.mem_map.1 hp
 have hi := List.mem_range.1 hi
 have a1 : i / u.d.toNat < u.c.toNat := (Nat.div_lt_iff_lt_mul (by omega)).2 hi
 have a2 : i % u.d.toNat < u.d.toNat := Nat.mod_lt _ (by omega)
 unfold unitF
 generalize i / u.d.toNat = r at *
 generalize i % u.d.toNat = c at *
 refine ⟨hu.1, hu.2.1, hu.2.2.1, show (0 : Int) ≤ (r : Int) by omega, show (r : Int) ≤ 31 by omega, show (0 : Int) ≤ (c : Int) by omega, show (c : Int) ≤ 47 by omega, fun h => ?_⟩
 obtain ⟨h1, h2⟩ := hl h
 exact ⟨show (r : Int) = 0 by omega, show (c : Int) = 0 by omega⟩
theorem units_lane (d : Dk) : ∀ u ∈ unitsL d, u.a = 3 → u.c = 1 ∧ u.d = 1 := by
 intro u hu h
 unfold unitsL at hu
 rcases List.mem_append.1 hu with hu | hu
 ·rcases List.mem_append.1 hu with hu | hu
  ·obtain ⟨i, hi, rfl⟩ := List.mem_map.1 hu
   exact absurd h (show ¬ (1 : Int) = 3 by decide)
  ·obtain ⟨i, hi, rfl⟩ := List.mem_map.1 hu
   exact absurd h (show ¬ (2 : Int) = 3 by decide)
 ·obtain ⟨i, hi, rfl⟩ := List.mem_map.1 hu
  exact ⟨rfl, rfl⟩
theorem parts_okP (d : Dk) : ∀ p ∈ partsK d, okP p := by
 intro p hp
 unfold partsK at hp
 by_cases hz : dchk d = 0
 ·rw [if_pos hz] at hp
  unfold partsL partsU at hp
  obtain ⟨u, hu, hp⟩ := List.mem_flatMap.1 hp
  exact unit_okP u (units_ok d (dchk_ok d hz) u hu) (units_lane d u hu) p hp
 ·rw [if_neg hz] at hp
  simp at hp
theorem parts_len (d : Dk) : (partsK d).length ≤ 49152 := by
 unfold partsK
 by_cases hz : dchk d = 0
 ·rw [if_pos hz]
  have h := partsU_len _ (units_ok d (dchk_ok d hz))
  have h2 := units_len d (dchk_ok d hz)
  unfold partsL
  omega
 ·rw [if_neg hz]; simp
theorem cntK_nil (k : Int) : cntK k [] = 0 := rfl
theorem cnt_U (k : Int) (f : Nat → Q4) (n : Nat) (j : Int) (hj : ∀ i, (f i).a = j) : cntK k (partsU ((List.range n).map f)) = if j = k then (((List.range n).map fun i => (unitN (f i) : Int)).sum) else 0 := by
 induction n with
 | zero => simp [partsU, cntK_nil]
 | succ n ih =>
  rw [map_snoc, partsU_snoc, cnt_append, ih, cnt_unit, hj n, map_snoc, List.sum_append]
  by_cases h : j = k
  ·rw [if_pos h, if_pos h, if_pos h]; simp
  ·rw [if_neg h, if_neg h, if_neg h]; rfl
theorem sum_plates (l : List Pl) (h : ∀ i, i < l.length → okU (plateU l i)) : ∀ n, n ≤ l.length → ((List.range n).map fun i => (unitN (plateU l i) : Int)).sum = wellsV (l.take n) := by
 intro n
 induction n with
 | zero => intro _; rfl
 | succ n ih =>
  intro hn
  rw [map_snoc, List.sum_append, ih (by omega), wells_snoc l n (by omega)]
  have := (okU_pos (h n (by omega))).2.2.2.2.1
  have e : (plateU l n).c * (plateU l n).d = (l.getD n KP.dflt).rows * (l.getD n KP.dflt).cols := rfl
  rw [e] at this
  rw [this]
  simp
theorem sum_racks (l : List Rk) (h : ∀ i, i < l.length → okU (rackU l i)) : ∀ n, n ≤ l.length → ((List.range n).map fun i => (unitN (rackU l i) : Int)).sum = tipsV (l.take n) := by
 intro n
 induction n with
 | zero => intro _; rfl
 | succ n ih =>
  intro hn
  rw [map_snoc, List.sum_append, ih (by omega), tips_snoc l n (by omega)]
  have := (okU_pos (h n (by omega))).2.2.2.2.1
  have e : (rackU l n).c * (rackU l n).d = (l.getD n KR.dflt).rows * (l.getD n KR.dflt).cols := rfl
  rw [e] at this
  rw [this]
  simp
end Go.Proofs.YtmecohdedghiaaaDoor
namespace Go.Proofs.YtmecohdedghiaaaDoor
open Go.RowKit
theorem partV_K (d : Dk) (id : Int) (h : dchk d = 0) : partV d id = partR (partsK d) id := by unfold partV partsK; rw [if_pos h, if_pos h]
end Go.Proofs.YtmecohdedghiaaaDoor
namespace Go.Proofs.YtmecohdedghiaaaDoor
open Go.RowKit
set_option maxRecDepth 100000 in
set_option maxHeartbeats 4000000 in
theorem rpart_any (d : Dk) (id : Int) (hid : fits id) (w : World) (hd : d.In w w.heap.size) : Calls Tryd.prog 47 #[d.v, .int .i64 id] w fun e w' => e = .returned (partVal (partV d id)) ∧ Below w.heap.size w w' := by
 have HC := Lib.hid (fun w h => rdcheck_any d w h)
 have HP := Lib.hid (fun w h => rparts_any d w h)
 have HD := Lib.hid hd
 have HLN := Lib.hid (parts_len d)
 obtain ⟨w0, hw0⟩ : ∃ w0, w0 = (w.alloc (.cells #[.slice d.bA d.bn d.bc, .slice d.pA d.pn d.pc, .slice d.rA d.rn d.rc, .int .i64 d.arms] 26)).alloc (.cells #[.int .i64 0, .int .i64 0, .int .i64 0, .int .i64 0] 90) := ⟨_, rfl⟩
 have HB0 := Lib.hid (show Below w.heap.size w w0 by rw [hw0]; exact Below.al (Below.al (Below.refl _ _) _) _)
 have HD0 := Lib.hid (HD.out.then HB0.out)
 have HSZ := Lib.hid (show w.heap.size + 1 < w0.heap.size by rw [hw0]; simp)
 have HF := Lib.hid (show ∀ w1, Below w0.heap.size w0 w1 → (w1.cell? ⟨w.heap.size, 0, none⟩ = some (.slice d.bA d.bn d.bc) ∧ w1.cell? ⟨w.heap.size, 1, none⟩ = some (.slice d.pA d.pn d.pc) ∧ w1.cell? ⟨w.heap.size, 2, none⟩ = some (.slice d.rA d.rn d.rc) ∧ w1.cell? ⟨w.heap.size, 3, none⟩ = some (.int .i64 d.arms)) ∧
  (w1.cell? ⟨w.heap.size + 1, 0, none⟩ = some (.int .i64 0) ∧ w1.cell? ⟨w.heap.size + 1, 1, none⟩ = some (.int .i64 0) ∧ w1.cell? ⟨w.heap.size + 1, 2, none⟩ = some (.int .i64 0) ∧ w1.cell? ⟨w.heap.size + 1, 3, none⟩ = some (.int .i64 0)) ∧
  (w1.frozen? ⟨w.heap.size + 1, 0, none⟩ = false ∧ w1.frozen? ⟨w.heap.size + 1, 1, none⟩ = false ∧ w1.frozen? ⟨w.heap.size + 1, 2, none⟩ = false ∧ w1.frozen? ⟨w.heap.size + 1, 3, none⟩ = false) from by
   intro w1 hb
   have hs : w.heap.size + 1 < w0.heap.size := HSZ.out
   refine ⟨⟨keep_cell hb ?_, keep_cell hb ?_, keep_cell hb ?_, keep_cell hb ?_⟩, ⟨keep_cell hb ?_, keep_cell hb ?_, keep_cell hb ?_, keep_cell hb ?_⟩, (hb.frozen (p := ⟨_, 0, none⟩) hs).trans ?_, (hb.frozen (p := ⟨_, 1, none⟩) hs).trans ?_, (hb.frozen (p := ⟨_, 2, none⟩) hs).trans ?_, (hb.frozen (p := ⟨_, 3, none⟩) hs).trans ?_⟩
   all_goals (rw [hw0]; simp))
 unfold fits at hid
 by_cases hz : dchk d = 0
 ·have HV := Lib.hid (partV_K d id hz)
  rw [HV.out]
  rw [hz] at HC
  clear hz hd HV
  obtain ⟨P, hP⟩ : ∃ P, P = partsK d := ⟨_, rfl⟩
  rw [← hP] at HP HLN ⊢
  clear hP
  have hpl : P.length ≤ 49152 := HLN.out
  by_cases hr : id < 0 ∨ (P.length : Int) ≤ id
  ·have T : partVal (partR P id) = .tuple #[.agg #[.int .i64 0, .int .i64 0, .int .i64 0, .int .i64 0], .int .i64 3] := by unfold partR; rw [if_pos hr]; rfl
   rw [T]
   clear T
   by_cases h0 : id < 0
   ·clear hr
    go_enter Tryd.func47, Tryd.ntmps47
    go_wp2_with fail
    rw [← hw0]
    clear hw0
    refine (HC.out _ HD0.out).mono ?_
    rintro e w1 ⟨rfl, hb1⟩
    obtain ⟨⟨d0, d1, d2, d3⟩, _, _⟩ := HF.out w1 hb1
    have HB1 := Lib.hid hb1
    clear hb1
    go_wp2_with fail
    refine (HP.out w1 (HD0.out.then HB1.out)).mono ?_
    rintro e w3 ⟨v, rfl, hown, hb3⟩
    have HB3 := Lib.hid (Below.call HB1.out hb3)
    obtain ⟨⟨A, cap, rfl, hcap, _⟩, _, _⟩ := hown.isL (by omega)
    clear hown hb3 d0 d1 d2 d3
    obtain ⟨_, ⟨r0, r1, r2, r3⟩, ⟨z0, z1, z2, z3⟩⟩ := HF.out w3 HB3.out
    go_wp2
    obtain ⟨y0, y1, y2, y3⟩ := st4 (.int .i64 0) (.int .i64 0) (.int .i64 0) (.int .i64 0) r0 r1 r2 r3
    exact bodyPost_ret (v := .tuple #[.agg #[.int .i64 0, .int .i64 0, .int .i64 0, .int .i64 0], .int .i64 3]) (by simp [results, Tryd.results47, go_sem, y0, y1, y2, y3]) rfl ⟨rfl, below_st4 _ _ _ _ (Below.call HB0.out HB3.out) (by omega)⟩
   ·have h1 : (P.length : Int) ≤ id := by omega
    clear hr
    go_enter Tryd.func47, Tryd.ntmps47
    go_wp2_with fail
    rw [← hw0]
    clear hw0
    refine (HC.out _ HD0.out).mono ?_
    rintro e w1 ⟨rfl, hb1⟩
    obtain ⟨⟨d0, d1, d2, d3⟩, _, _⟩ := HF.out w1 hb1
    have HB1 := Lib.hid hb1
    clear hb1
    go_wp2_with fail
    refine (HP.out w1 (HD0.out.then HB1.out)).mono ?_
    rintro e w3 ⟨v, rfl, hown, hb3⟩
    have HB3 := Lib.hid (Below.call HB1.out hb3)
    obtain ⟨⟨A, cap, rfl, hcap, _⟩, _, _⟩ := hown.isL (by omega)
    clear hown hb3 d0 d1 d2 d3
    obtain ⟨_, ⟨r0, r1, r2, r3⟩, ⟨z0, z1, z2, z3⟩⟩ := HF.out w3 HB3.out
    go_wp2
    obtain ⟨y0, y1, y2, y3⟩ := st4 (.int .i64 0) (.int .i64 0) (.int .i64 0) (.int .i64 0) r0 r1 r2 r3
    exact bodyPost_ret (v := .tuple #[.agg #[.int .i64 0, .int .i64 0, .int .i64 0, .int .i64 0], .int .i64 3]) (by simp [results, Tryd.results47, go_sem, y0, y1, y2, y3]) rfl ⟨rfl, below_st4 _ _ _ _ (Below.call HB0.out HB3.out) (by omega)⟩
  ·obtain ⟨i, rfl⟩ : ∃ i : Nat, id = (i : Int) := ⟨id.toNat, by omega⟩
   have hi : i < P.length := by omega
   have HT := Lib.hid (show partR P (i : Int) = (P.getD i ⟨0, 0, 0, 0⟩, 0) by unfold partR; rw [if_neg hr, Int.toNat_natCast])
   rw [HT.out]
   clear hr HT
   go_enter Tryd.func47, Tryd.ntmps47
   go_wp2_with fail
   rw [← hw0]
   clear hw0
   refine (HC.out _ HD0.out).mono ?_
   rintro e w1 ⟨rfl, hb1⟩
   obtain ⟨⟨d0, d1, d2, d3⟩, _, _⟩ := HF.out w1 hb1
   have HB1 := Lib.hid hb1
   clear hb1
   go_wp2_with fail
   refine (HP.out w1 (HD0.out.then HB1.out)).mono ?_
   rintro e w3 ⟨v, rfl, hown, hb3⟩
   have HB3 := Lib.hid (Below.call HB1.out hb3)
   have HL := Lib.hid (hown.isL (by omega))
   obtain ⟨⟨A, cap, rfl, hcap, _⟩, _, _⟩ := HL.out
   clear hown hb3 d0 d1 d2 d3
   obtain ⟨b, off, rfl, hbB, _, hcell⟩ := q4_cells (K := KQ) rfl rfl rfl HL.out (by omega)
   obtain ⟨c0, c1, c2, c3⟩ := hcell i hi
   obtain ⟨_, ⟨r0, r1, r2, r3⟩, ⟨z0, z1, z2, z3⟩⟩ := HF.out w3 HB3.out
   have hq : ∀ q : Q4, partVal (q, 0) = .tuple #[.agg #[.int .i64 q.a, .int .i64 q.b, .int .i64 q.c, .int .i64 q.d], .int .i64 0] := fun _ => rfl
   have HQ := Lib.hid (hq (P.getD i ⟨0, 0, 0, 0⟩))
   clear hcell hq
   generalize hqq : P.getD i ⟨0, 0, 0, 0⟩ = q at *
   have HQ2 := Lib.hid hqq
   clear hqq
   go_wp2
   obtain ⟨y0, y1, y2, y3⟩ := st4 (.int .i64 q.a) (.int .i64 q.b) (.int .i64 q.c) (.int .i64 q.d) r0 r1 r2 r3
   exact bodyPost_ret (v := .tuple #[.agg #[.int .i64 q.a, .int .i64 q.b, .int .i64 q.c, .int .i64 q.d], .int .i64 0]) (by simp [results, Tryd.results47, go_sem, y0, y1, y2, y3]) rfl ⟨by rw [HQ2.out, HQ.out], below_st4 _ _ _ _ (Below.call HB0.out HB3.out) (by omega)⟩
 ·have HV := Lib.hid (show partVal (partV d id) = .tuple #[.agg #[.int .i64 0, .int .i64 0, .int .i64 0, .int .i64 0], .int .i64 (dchk d)] by unfold partV; rw [if_neg hz]; rfl)
  have hz' : (dchk d != 0) = true := by rw [bne_iff_ne]; exact hz
  rw [HV.out]
  clear hz HV
  generalize dchk d = c at *
  go_enter Tryd.func47, Tryd.ntmps47
  go_wp2_with fail
  rw [← hw0]
  clear hw0
  refine (HC.out _ HD0.out).mono ?_
  rintro e w1 ⟨rfl, hb1⟩
  obtain ⟨_, ⟨r0, r1, r2, r3⟩, ⟨z0, z1, z2, z3⟩⟩ := HF.out w1 hb1
  have HB1 := Lib.hid (Below.call HB0.out hb1)
  clear hb1
  go_wp2
  obtain ⟨y0, y1, y2, y3⟩ := st4 (.int .i64 0) (.int .i64 0) (.int .i64 0) (.int .i64 0) r0 r1 r2 r3
  exact bodyPost_ret (v := .tuple #[.agg #[.int .i64 0, .int .i64 0, .int .i64 0, .int .i64 0], .int .i64 c]) (by simp [results, Tryd.results47, go_sem, y0, y1, y2, y3]) rfl ⟨rfl, below_st4 _ _ _ _ HB1.out (by omega)⟩
end Go.Proofs.YtmecohdedghiaaaDoor
namespace Go.Proofs.YtmecohdedghiaaaDoor
open Go.RowKit
def bigB (q : Pl) : Bool := decide (500 < q.st.length)
def largeB (d : Dk) : Bool := decide (60 < d.bl.length ∨ 8 < d.pl.length ∨ 8 < d.rl.length) || d.pl.any bigB
theorem any_yes {α : Type} (l : List α) (z : α) (f : α → Bool) (k : Nat) (h : k < l.length) (hf : f (l.getD k z) = true) : l.any f = true := List.any_eq_true.2 ⟨_, getD_mem' l k z h, hf⟩
theorem any_no {α : Type} (l : List α) (z : α) (f : α → Bool) (h : ∀ i, i < l.length → f (l.getD i z) = false) : l.any f = false := by
 rw [← Bool.not_eq_true, List.any_eq_true]
 rintro ⟨x, hx, hf⟩
 obtain ⟨i, hi, rfl⟩ := List.mem_iff_getElem.1 hx
 have := h i hi
 rw [List.getD_eq_getElem?_getD, List.getElem?_eq_getElem hi, Option.getD_some, hf] at this
 cases this
set_option maxRecDepth 100000 in
set_option maxHeartbeats 4000000 in
theorem large_any (d : Dk) (w : World) (hd : d.In w w.heap.size) : Calls Tryd.prog 16 #[d.v] w fun e w' => e = .returned (.bool (largeB d)) ∧ Below w.heap.size w w' := by
 have HD := Lib.hid hd
 have e0 := hd.b.len
 have e1 := hd.p.len
 have e2 := hd.r.len
 have L1 := Lib.hid (fun h : 60 < d.bl.length ∨ 8 < d.pl.length ∨ 8 < d.rl.length => show largeB d = true by unfold largeB; rw [decide_eq_true h]; rfl)
 have L2 := Lib.hid (fun h : ¬ (60 < d.bl.length ∨ 8 < d.pl.length ∨ 8 < d.rl.length) => show largeB d = d.pl.any bigB by unfold largeB; rw [decide_eq_false h]; rfl)
 have HY := Lib.hid (any_yes d.pl KP.dflt bigB)
 have HN := Lib.hid (any_no d.pl KP.dflt bigB)
 obtain ⟨C, hC⟩ : ∃ C, C = largeB d := ⟨_, rfl⟩
 rw [← hC] at L1 L2 ⊢
 clear hC
 obtain ⟨bA, bn, bc, bl, pA, pn, pc, pl, rA, rn, rc, rl, arms⟩ := d
 dsimp only at *
 subst e0 e1 e2
 have lb := hd.b.2.2
 clear hd
 obtain ⟨w0, hw0⟩ : ∃ w0, w0 = w.alloc (.cells #[.slice bA bl.length bc, .slice pA pl.length pc, .slice rA rl.length rc, .int .i64 arms] 26) := ⟨_, rfl⟩
 have f1 : w0.cell? ⟨w.heap.size, 1, none⟩ = some (.slice pA pl.length pc) := by rw [hw0]; exact alloc_cell _ _ _ _ _ rfl
 have HB0 := Lib.hid (show Below w.heap.size w w0 by rw [hw0]; exact Below.al (Below.refl _ _) _)
 have HD0 := Lib.hid (HD.out.then HB0.out)
 by_cases h1 : 60 < bl.length
 ·obtain rfl := L1.out (.inl h1)
  go_enter Tryd.func16, Tryd.ntmps16
  go_wp2
  go_ret
  exact ⟨rfl, by rw [← hw0]; exact HB0.out⟩
 ·by_cases h2 : 8 < pl.length
  ·obtain rfl := L1.out (.inr (.inl h2))
   go_enter Tryd.func16, Tryd.ntmps16
   go_wp2
   go_ret
   exact ⟨rfl, by rw [← hw0]; exact HB0.out⟩
  ·by_cases h3 : 8 < rl.length
   ·obtain rfl := L1.out (.inr (.inr h3))
    go_enter Tryd.func16, Tryd.ntmps16
    go_wp2
    go_ret
    exact ⟨rfl, by rw [← hw0]; exact HB0.out⟩
   ·have HL := Lib.hid (L2.out (by omega))
    clear L1 L2
    go_enter Tryd.func16, Tryd.ntmps16
    go_wp2
    rw [← hw0]
    clear hw0
    go_loop [3] (fun i => ∃ k : Nat, k ≤ pl.length ∧ i = .int .i64 k ∧ ∀ i, i < k → bigB (pl.getD i KP.dflt) = false) (fun i => pl.length - (intOf i).toNat)
    case atStart => exact ⟨0, Nat.zero_le _, rfl, fun i hi => by omega⟩
    case round =>
     obtain ⟨k, hk, rfl, hall⟩ := hrel
     have HA := Lib.hid hall
     clear hall
     by_cases hlt : k < pl.length
     ·obtain ⟨b, off, rfl, hb, hc, hcell⟩ := plate_cells HD0.out.p (by dsimp only; omega)
      obtain ⟨c0, c1, c2, c3, c4, c5, c6⟩ := hcell k hlt
      have hsn := (HD0.out.s _ (getD_mem' pl k KP.dflt hlt)).len
      have hsl := (HD0.out.s _ (getD_mem' pl k KP.dflt hlt)).2.2
      have HYk := Lib.hid (HY.out k hlt)
      have HLS := Lib.hid (show ∀ (h : bigB (pl.getD k KP.dflt) = false) (i : Nat), i < k + 1 → bigB (pl.getD i KP.dflt) = false from fun h i hi => by
       by_cases e : i = k
       ·rw [e]; exact h
       ·exact HA.out i (by omega))
      clear hcell
      dsimp only at *
      rw [hsn] at c6
      clear hsn
      generalize pl.getD k KP.dflt = q at *
      by_cases g : 500 < q.st.length
      ·have HR := Lib.hid (HYk.out (decide_eq_true g))
       go_wp2
       go_ret
       exact ⟨ret_b (by rw [HL.out, HR.out]), HB0.out⟩
      ·have HR := Lib.hid (HLS.out (decide_eq_false g))
       go_wp2
       go_round
       case rel => exact ⟨k + 1, by omega, num_i (by omega), HR.out⟩
       case measure => simp [intOf]; omega
     ·obtain rfl : k = pl.length := by omega
      have HR := Lib.hid (HN.out HA.out)
      go_wp2
      go_ret
      exact ⟨ret_b (by rw [HL.out, HR.out]), HB0.out⟩
noncomputable def capV (d : Dk) (id : Int) : Int := if (partV d id).2 = 0 ∧ (partV d id).1.a = 1 then (d.pl.getD (partV d id).1.b.toNat KP.dflt).cap else 0
noncomputable def startV (d : Dk) (id : Int) : Int :=
 if (partV d id).2 = 0 ∧ (partV d id).1.a = 1 then
  (d.pl.getD (partV d id).1.b.toNat KP.dflt).st.getD ((partV d id).1.c * (d.pl.getD (partV d id).1.b.toNat KP.dflt).cols + (partV d id).1.d).toNat 0
 else 0
theorem partV_ok (d : Dk) (id : Int) (h : (partV d id).2 = 0) : OkD d ∧ (partV d id).1 ∈ partsK d ∧ dchk d = 0 ∧ 0 ≤ id ∧ id < (partsK d).length := by
 by_cases hz : dchk d = 0
 ·have e := partV_K d id hz
  refine ⟨dchk_ok d hz, ?_⟩
  rw [e] at h ⊢
  unfold partR at h ⊢
  by_cases hr : id < 0 ∨ ((partsK d).length : Int) ≤ id
  ·rw [if_pos hr] at h; cases h
  ·rw [if_neg hr]
   exact ⟨getD_mem' _ _ _ (by omega), hz, by omega, by omega⟩
 ·unfold partV at h
  rw [if_neg hz] at h
  exact absurd h hz
end Go.Proofs.YtmecohdedghiaaaDoor
