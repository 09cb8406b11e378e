/- The units of a deck: what the program answers. -/
import Derived.Test.YtacjonncakhhmaaGreatPz15
namespace Go.Proofs.YtacjonncakhhmaaGreat
open Go.RowKit
theorem map_snoc {α : Type} (f : Nat → α) (k : Nat) : (List.range (k + 1)).map f = (List.range k).map f ++ [f k] := by
 rw [List.range_succ, List.map_append]
 rfl
set_option maxRecDepth 100000 in
set_option maxHeartbeats 4000000 in
theorem units_any (d : Dk) (w : World) (hd : d.In w w.heap.size) (hp : d.pl.length ≤ 4) (hr : d.rl.length ≤ 4) (hb1 : 2 ≤ d.bl.length) (hb2 : d.bl.length ≤ 25) :
  Calls Tryz.prog 96 #[d.v] w fun e w' => ∃ v, e = .returned v ∧ KU.Own w' w.heap.size v (unitsL d) ∧ Below w.heap.size w w' := by
 have HD := Lib.hid hd
 have e0 := hd.b.len
 have e1 := hd.p.len
 have e2 := hd.r.len
 have HU := Lib.hid (show unitsL d = (List.range d.pl.length).map (plateU d.pl) ++ (List.range d.rl.length).map (rackU d.rl) ++ (List.range (d.bl.length - 1)).map laneU from rfl)
 obtain ⟨U, hU⟩ : ∃ U, U = unitsL d := ⟨_, rfl⟩
 rw [← hU] at HU ⊢
 clear hU
 obtain ⟨bA, bn, bc, bl, pA, pn, pc, pl, rA, rn, rc, rl, arms⟩ := d
 dsimp only at *
 subst e0 e1 e2
 clear hd
 have hsf := fun (w : World) (a : Addr) (m : Mode) (b : Nat) => run_store_float (P := Tryz.prog) (w := w) (a := a) (m := m) .f64 b
 obtain ⟨w0, hw0⟩ : ∃ w0, w0 = w.alloc (.cells #[.slice bA bl.length bc, .slice pA pl.length pc, .slice rA rl.length rc, .int .i64 arms] 26) := ⟨_, rfl⟩
 have f0 : w0.cell? ⟨w.heap.size, 0, none⟩ = some (.slice bA bl.length bc) := by rw [hw0]; exact alloc_cell _ _ _ _ _ rfl
 have f1 : w0.cell? ⟨w.heap.size, 1, none⟩ = some (.slice pA pl.length pc) := by rw [hw0]; exact alloc_cell _ _ _ _ _ rfl
 have f2 : w0.cell? ⟨w.heap.size, 2, none⟩ = some (.slice rA rl.length rc) := by rw [hw0]; exact alloc_cell _ _ _ _ _ rfl
 have HB0 := Lib.hid (show Below w.heap.size w w0 by rw [hw0]; exact Below.al (Below.refl _ _) _)
 have HD0 := Lib.hid (HD.out.then HB0.out)
 obtain ⟨i0, hi, hz0, hz1, hz2⟩ := info_parts KU.info
 obtain ⟨w1, hmk, hown, hgr⟩ := run_make_own (P := Tryz.prog) w0 w0.heap.size 141 144 i0 _ 4 Tryz.underlying141 hi hz0 hz1 .i64 .i64 32 (by rw [hz2]; decide) (by decide) (Nat.le_refl _)
 have hsz : w0.heap.size = w.heap.size + 1 := by rw [hw0]; simp
 rw [show (Value.slice (some ⟨w0.heap.size, 0, none⟩) 0 32) = Value.slice (some ⟨w.heap.size + 1, 0, none⟩) 0 32 by rw [hsz]] at hown hmk
 have HO1 := Lib.hid (show KU.Own w1 w0.heap.size (.slice (some ⟨w.heap.size + 1, 0, none⟩) 0 32) [] from ⟨hown, fun x hx => by simp at hx⟩)
 have HB1 := Lib.hid (show Below w0.heap.size w0 w1 from (Below.refl _ _).grown hgr (Nat.le_refl _) (fun k hk => by cases hk))
 have HD1 := Lib.hid (HD0.out.then HB1.out)
 have HF := Lib.hid (show ∀ w2, Below w0.heap.size w0 w2 → w2.cell? ⟨w.heap.size, 0, none⟩ = some (.slice bA bl.length bc) ∧ w2.cell? ⟨w.heap.size, 1, none⟩ = some (.slice pA pl.length pc) ∧ w2.cell? ⟨w.heap.size, 2, none⟩ = some (.slice rA rl.length rc) from
  fun w2 hb => ⟨keep_cell hb f0, keep_cell hb f1, keep_cell hb f2⟩)
 clear hown hgr hi hz0 hz1 hz2 f0 f1 f2
 obtain ⟨h0, h1, h2⟩ := HF.out w1 HB1.out
 rw [hw0] at hmk
 have hmk' : (Instr.makeSlice 141 (.int .i64 0) (.int .i64 32)).run Tryz.prog (w.alloc (.cells #[.slice bA bl.length bc, .slice pA pl.length pc, .slice rA rl.length rc, .int .i64 arms] 26)) = .ok (.slice (some ⟨w.heap.size + 1, 0, none⟩) 0 32) w1 := hmk
 clear hmk
 go_enter Tryz.func96, Tryz.ntmps96
 go_wp2
 clear hmk' h0 h1 h2 hw0 hsz
 obtain ⟨v0, hv0⟩ : ∃ v, v = Value.slice (some ⟨w.heap.size + 1, 0, none⟩) 0 32 := ⟨_, rfl⟩
 rw [← hv0] at HO1
 go_loopw [3, 13] (fun v i wr => ∃ k : Nat, k ≤ pl.length ∧ i = .int .i64 k ∧ KU.Own wr w0.heap.size v ((List.range k).map (plateU pl)) ∧ Below w0.heap.size w0 wr) (fun _ i _ => pl.length - (intOf i).toNat)
 case atStart => exact ⟨0, Nat.zero_le _, rfl, by rw [← hv0]; exact HO1.out, HB1.out⟩
 case round =>
  obtain ⟨k, hk, rfl, hown, hbl⟩ := hrel
  have HO := Lib.hid hown
  have HB := Lib.hid hbl
  clear hown hbl
  by_cases hlt : k < pl.length
  ·obtain ⟨b, off, rfl, hb, hc, hcell⟩ := plate_cells (HD0.out.p.below HB.out) (by dsimp only; omega)
   obtain ⟨c0, c1, c2, c3, c4, c5, c6⟩ := hcell k hlt
   have HS := Lib.hid (map_snoc (plateU pl) k)
   obtain ⟨o1, o2, _⟩ := HD0.out.p.okAt k hlt
   have HOK := Lib.hid (show KU.ok (plateU pl k) from ⟨(by decide : fits 1), (show fits (k : Int) by unfold fits; omega), o1, o2⟩)
   have HLN := Lib.hid (show ((List.range k).map (plateU pl)).length = k by simp)
   have hu : plateU pl k = ⟨1, k, (pl.getD k KP.dflt).rows, (pl.getD k KP.dflt).cols⟩ := rfl
   rw [hu] at HS HOK
   clear hcell hu o1 o2
   dsimp only at *
   generalize pl.getD k KP.dflt = q at *
   generalize (List.range k).map (plateU pl) = L at *
   go_wp2_with (at_builtin; refine Lk.wpList_app (K := KU) _ rfl _ _ rfl rfl w0.heap.size (wr.heap.size + 1 + 1) _ _ L [⟨1, k, q.rows, q.cols⟩] rfl rfl ((HO.out.alloc _).alloc _) (Lk.IsL.lit (K := KU) _ ⟨1, k, q.rows, q.cols⟩ _ HOK.out rfl (wr.heap.size + 1) (by simp)) ?c1 ?c2 ?_)
   case c1 => have := HLN.out; simp; omega
   case c2 => have := HB.out.size; simp; omega
   intro v1 w2 hown hgrow _
   have HB2 := Lib.hid (Lk.Own.grow' ((HO.out.alloc _).alloc _) (Below.al (Below.al HB.out _) _) (by have := HB.out.size; simp; omega) hgrow)
   have HO2 := Lib.hid hown
   clear hown hgrow
   go_wp2
   go_roundw
   case rel => exact ⟨k + 1, by omega, num_i (by omega), by rw [HS.out]; exact HO2.out, HB2.out⟩
   case measure => simp [intOf]; omega
  ·obtain rfl : k = pl.length := by omega
   obtain ⟨w2, hw2⟩ : ∃ w2, w2 = wr := ⟨_, rfl⟩
   subst hw2
   obtain ⟨q0, q1, q2⟩ := HF.out w2 HB.out
   obtain ⟨L1, hL1⟩ : ∃ L1, L1 = (List.range pl.length).map (plateU pl) := ⟨_, rfl⟩
   have HLL := Lib.hid (show L1.length = pl.length by rw [hL1]; simp)
   rw [← hL1] at HO HU
   clear hL1
   go_wp2
   clear q0 q1 q2
   obtain ⟨va, hva⟩ : ∃ v, v = u3 := ⟨_, rfl⟩
   rw [← hva] at HO
   go_loopw [3, 31] (fun v i wr => ∃ k : Nat, k ≤ rl.length ∧ i = .int .i64 k ∧ KU.Own wr w0.heap.size v (L1 ++ (List.range k).map (rackU rl)) ∧ Below w0.heap.size w0 wr) (fun _ i _ => rl.length - (intOf i).toNat)
   case atStart => exact ⟨0, Nat.zero_le _, rfl, by rw [← hva]; simpa using HO.out, HB.out⟩
   case round =>
    clear HO
    obtain ⟨k, hk, rfl, hown, hbl⟩ := hrel
    have HO := Lib.hid hown
    have HB2 := Lib.hid hbl
    clear hown hbl
    by_cases hlt : k < rl.length
    ·obtain ⟨b, off, rfl, hb, hc, hcell⟩ := rack_cells (HD0.out.r.below HB2.out) (by dsimp only; omega)
     obtain ⟨c0, c1, c2, c3, c4⟩ := hcell k hlt
     have HS := Lib.hid (map_snoc (rackU rl) k)
     obtain ⟨o1, o2, _⟩ := HD0.out.r.okAt k hlt
     have HOK := Lib.hid (show KU.ok (rackU rl k) from ⟨(by decide : fits 2), (show fits (k : Int) by unfold fits; omega), o1, o2⟩)
     have HLN := Lib.hid (show (L1 ++ (List.range k).map (rackU rl)).length = pl.length + k by rw [List.length_append, HLL.out]; simp)
     have hu : rackU rl k = ⟨2, k, (rl.getD k KR.dflt).rows, (rl.getD k KR.dflt).cols⟩ := rfl
     rw [hu] at HS HOK
     clear hcell hu o1 o2
     dsimp only at *
     generalize rl.getD k KR.dflt = q at *
     have HS2 := Lib.hid (show L1 ++ (List.range (k + 1)).map (rackU rl) = (L1 ++ (List.range k).map (rackU rl)) ++ [⟨2, k, q.rows, q.cols⟩] by rw [HS.out, List.append_assoc])
     clear HS
     generalize L1 ++ (List.range k).map (rackU rl) = L at *
     go_wp2_with (at_builtin; refine Lk.wpList_app (K := KU) _ rfl _ _ rfl rfl w0.heap.size (wr.heap.size + 1 + 1) _ _ L [⟨2, k, q.rows, q.cols⟩] rfl rfl ((HO.out.alloc _).alloc _) (Lk.IsL.lit (K := KU) _ ⟨2, k, q.rows, q.cols⟩ _ HOK.out rfl (wr.heap.size + 1) (by simp)) ?c1 ?c2 ?_)
     case c1 => have := HLN.out; simp; omega
     case c2 => have := HB2.out.size; simp; omega
     intro v1 w3 hown hgrow _
     have HB3 := Lib.hid (Lk.Own.grow' ((HO.out.alloc _).alloc _) (Below.al (Below.al HB2.out _) _) (by have := HB2.out.size; simp; omega) hgrow)
     have HO3 := Lib.hid hown
     clear hown hgrow
     go_wp2
     go_roundw
     case rel => exact ⟨k + 1, by omega, num_i (by omega), by rw [HS2.out]; exact HO3.out, HB3.out⟩
     case measure => simp [intOf]; omega
    ·obtain rfl : k = rl.length := by omega
     obtain ⟨w3, hw3⟩ : ∃ w3, w3 = wr := ⟨_, rfl⟩
     subst hw3
     obtain ⟨q0, q1, q2⟩ := HF.out w3 HB2.out
     obtain ⟨L2, hL2⟩ : ∃ L2, L2 = L1 ++ (List.range rl.length).map (rackU rl) := ⟨_, rfl⟩
     have HLL2 := Lib.hid (show L2.length = pl.length + rl.length by rw [hL2, List.length_append, HLL.out]; simp)
     rw [← hL2] at HO HU
     clear hL2
     obtain ⟨nb, hnb⟩ : ∃ nb, bl.length = nb + 1 := ⟨bl.length - 1, by omega⟩
     rw [hnb] at q0 hb1 hb2
     rw [show bl.length - 1 = nb by omega] at HU
     clear hnb
     go_wp2
     clear q0 q1 q2
     obtain ⟨vb, hvb⟩ : ∃ v, v = u3 := ⟨_, rfl⟩
     rw [← hvb] at HO
     go_loopw [3, 50] (fun v i wr => ∃ k : Nat, k ≤ nb ∧ i = .int .i64 k ∧ KU.Own wr w0.heap.size v (L2 ++ (List.range k).map laneU) ∧ Below w0.heap.size w0 wr) (fun _ i _ => nb - (intOf i).toNat)
     case atStart => exact ⟨0, Nat.zero_le _, rfl, by rw [← hvb]; simpa using HO.out, HB2.out⟩
     case round =>
      clear HO
      obtain ⟨k, hk, rfl, hown, hbl⟩ := hrel
      have HO := Lib.hid hown
      have HB3 := Lib.hid hbl
      clear hown hbl
      by_cases hlt : k < nb
      ·have HS := Lib.hid (map_snoc laneU k)
       have HOK := Lib.hid (show KU.ok (laneU k) from ⟨(by decide : fits 3), (show fits (k : Int) by unfold fits; omega), (by decide : fits 1), (by decide : fits 1)⟩)
       have HLN := Lib.hid (show (L2 ++ (List.range k).map laneU).length = pl.length + rl.length + k by rw [List.length_append, HLL2.out]; simp)
       have hu : laneU k = ⟨3, k, 1, 1⟩ := rfl
       rw [hu] at HS HOK
       clear hu
       have HS2 := Lib.hid (show L2 ++ (List.range (k + 1)).map laneU = (L2 ++ (List.range k).map laneU) ++ [⟨3, k, 1, 1⟩] by rw [HS.out, List.append_assoc])
       clear HS
       generalize L2 ++ (List.range k).map laneU = L at *
       go_wp2_with (at_builtin; refine Lk.wpList_app (K := KU) _ rfl _ _ rfl rfl w0.heap.size (wr.heap.size + 1) _ _ L [⟨3, k, 1, 1⟩] rfl rfl (HO.out.alloc _) (Lk.IsL.lit (K := KU) _ ⟨3, k, 1, 1⟩ _ HOK.out rfl wr.heap.size rfl) ?c1 ?c2 ?_)
       case c1 => have := HLN.out; simp; omega
       case c2 => have := HB3.out.size; simp; omega
       intro v1 w4 hown hgrow _
       have HB4 := Lib.hid (Lk.Own.grow' (HO.out.alloc _) (Below.al HB3.out _) (by have := HB3.out.size; simp; omega) hgrow)
       have HO4 := Lib.hid hown
       clear hown hgrow
       go_wp2
       go_roundw
       case rel => exact ⟨k + 1, by omega, num_i (by omega), by rw [HS2.out]; exact HO4.out, HB4.out⟩
       case measure => simp [intOf]; omega
      ·obtain rfl : k = nb := by omega
       go_wp2
       go_ret
       exact ⟨_, rfl, by rw [HU.out]; exact HO.out.mono HB0.out.size, Below.call HB0.out HB3.out⟩
end Go.Proofs.YtacjonncakhhmaaGreat
