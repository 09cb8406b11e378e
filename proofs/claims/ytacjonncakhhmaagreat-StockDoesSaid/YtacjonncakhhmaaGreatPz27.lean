/- Stocks: the cells of a plate at first. -/
import Derived.Test.YtacjonncakhhmaaGreatPz25
import Derived.Test.YtacjonncakhhmaaGreatPz09
namespace Go.Proofs.YtacjonncakhhmaaGreat
open Go.RowKit
/-- A plate's first k cells, noughts behind them. -/
def plF (q : Pl) (k : Nat) : List Cel.Ce := (List.range k).map (cellA q) ++ List.replicate (plN q - k) ce0
theorem plF_len (q : Pl) (k : Nat) (h : k ≤ plN q) : (plF q k).length = plN q := by unfold plF; rw [List.length_append, List.length_map, List.length_range, List.length_replicate]; omega
theorem plF_set (q : Pl) (k : Nat) (h : k < plN q) : (plF q k).set k (cellA q k) = plF q (k + 1) := by
 unfold plF
 have hk : ((List.range k).map (cellA q)).length = k := by simp
 rw [List.set_append, if_neg (by omega), hk, Nat.sub_self, show plN q - k = (plN q - (k + 1)) + 1 by omega, List.replicate_succ, List.set_cons_zero, List.range_succ, List.map_append, List.append_assoc]
 rfl
theorem getD_past (l : List Int) (k : Nat) (h : ¬ k < l.length) : l.getD k 0 = 0 := by rw [List.getD_eq_getElem?_getD, List.getElem?_eq_none (by omega)]; rfl
set_option maxRecDepth 100000 in
set_option maxHeartbeats 4000000 in
theorem cellsOf_any (q : Pl) (hq : plateB q = true) (hok : KP.ok q) (w : World) (hs : KI.IsL w w.heap.size (.slice q.sA q.sn q.sc) q.st) : Calls Tryz.prog 32 #[q.v] w fun e w' => ∃ v, e = .returned v ∧ KE.Own w' w.heap.size v (plC q) ∧ Below w.heap.size w w' := by
 have HS := Lib.hid hs
 have hsn := hs.len
 obtain ⟨hN, hN1, hN2, hN3⟩ := plN_eq hq
 have HSET := Lib.hid (plF_set q)
 have HLEN := Lib.hid (plF_len q)
 have HA := Lib.hid (fun i => show cellA q i = ⟨q.cap, q.st.getD i 0, 0⟩ from rfl)
 have HR := Lib.hid (fun i => cellA_right hq i)
 have HFL := Lib.hid (show plF q (plN q) = plC q by unfold plF plC; rw [Nat.sub_self]; simp)
 have H0 := Lib.hid (show plF q 0 = List.replicate (plN q) ce0 by unfold plF; simp)
 have HNEW := Lib.hid (fun (a b : Int) (h : (Cel.Ce.mk a b 0).Right) (w : World) => (show Calls Tryz.prog 68 #[.int .i64 a, .int .i64 b] w fun e w' => e = .returned (.tuple #[.agg #[.int .i64 a, .int .i64 b, .int .i64 0], .int .i64 0]) ∧ Below w.heap.size w w' by
  have := Cel.new_any a b w
  unfold Cel.newV Cel.newE at this
  rw [if_pos h, if_pos h] at this
  exact this))
 generalize plF q = pf at *
 generalize plN q = n at *
 generalize plC q = pc at *
 generalize hcA : cellA q = cA at *
 clear hs hq hcA
 obtain ⟨rows, cols, X, P, R, cap, sA, sn, sc, st⟩ := q
 dsimp only at *
 subst hsn
 have hcapf := hok.2.2.2.2.2
 obtain ⟨f1, f2, f3, f4, f5, f6⟩ := hok
 dsimp only at *
 obtain ⟨i0, hi, hz0, hz1, hz2⟩ := info_parts KE.info
 have hsf := fun (w : World) (a : Addr) (m : Mode) (b : Nat) => run_store_float (P := Tryz.prog) (w := w) (a := a) (m := m) .f64 b
 have hmul : IntKind.i64.wrap (rows * cols) = (n : Int) := by rw [wrap_fits _ (by unfold fits; omega)]; exact hN.symm
 have hmul2 : Go.RowKit.wrap64 (rows * cols) = (n : Int) := by rw [← w64]; exact hmul
 obtain ⟨w0, hw0⟩ : ∃ w0, w0 = w.alloc (.cells #[.int .i64 rows, .int .i64 cols, .float .f64 X, .float .f64 P, .float .f64 R, .int .i64 cap, .slice sA st.length sc] 47) := ⟨_, rfl⟩
 have HB0 := Lib.hid (show Below w.heap.size w w0 by rw [hw0]; exact Below.al (Below.refl _ _) _)
 have HF := Lib.hid (show ∀ w1, Below w0.heap.size w0 w1 → (w1.cell? ⟨w.heap.size, 0, none⟩ = some (.int .i64 rows) ∧ w1.cell? ⟨w.heap.size, 1, none⟩ = some (.int .i64 cols) ∧ w1.cell? ⟨w.heap.size, 5, none⟩ = some (.int .i64 cap) ∧ w1.cell? ⟨w.heap.size, 6, none⟩ = some (.slice sA st.length sc)) from by
   intro w1 hb
   refine ⟨keep_cell hb ?_, keep_cell hb ?_, keep_cell hb ?_, keep_cell hb ?_⟩
   all_goals (rw [hw0]; simp [go_sem]))
 have hsz : w0.heap.size = w.heap.size + 1 := by rw [hw0]; simp
 have HSZ := Lib.hid hsz
 have HN := Lib.hid hN
 clear hsz hN
 go_enter Tryz.func32, Tryz.ntmps32
 go_wp2_with (at_make; refine wpList_make_full _ rfl _ _ 27 rfl (w.heap.size + 1) 58 i0 (.agg #[.int .i64 0, .int .i64 0, .int .i64 0]) 3 Tryz.underlying27 hi hz0 hz1 _ _ _ _ n rfl rfl rfl rfl ?bytes ?maxLen (by simp) ?_)
 case bytes => rw [hz2, show KE.bytes = 24 from rfl]; omega
 case maxLen => unfold maxLen; omega
 intro w1 hown hgrow
 rw [← hw0] at hgrow
 clear hw0
 have ho : KE.Own w1 (w.heap.size + 1) (.slice (some ⟨w.heap.size + 1, 0, none⟩) n n) (pf 0) := by
  refine ⟨?_, fun x hx => ?_⟩
  ·have e := Lk.flat_made KE ce0 rfl n
   rw [H0.out, ← e, List.length_replicate]
   exact hown
  ·rw [H0.out, List.mem_replicate] at hx
   rw [hx.2]
   exact ⟨by decide, by decide, by decide⟩
 have HB1' := Lib.hid ((Below.refl w0.heap.size w0).grown hgrow (Nat.le_refl _) (fun _ h => nomatch h))
 have HB1 := Lib.hid (Below.call HB0.out HB1'.out)
 have HO1 := Lib.hid ho
 obtain ⟨g0, g1, g5, g6⟩ := HF.out w1 HB1'.out
 clear hown hgrow ho hi hz0 hz1 hz2
 go_wp2
 go_loopw [14] (fun i wr => ∃ k : Nat, k ≤ n ∧ i = .int .i64 k ∧ KE.Own wr (w.heap.size + 1) (.slice (some ⟨w.heap.size + 1, 0, none⟩) n n) (pf k) ∧ Below w0.heap.size w0 wr) (fun i _ => n - (intOf i).toNat)
 case atStart => exact ⟨0, Nat.zero_le _, rfl, HO1.out, HB1'.out⟩
 case round =>
  clear g0 g1 g5 g6
  obtain ⟨k, hk, rfl, hown, hbl⟩ := hrel
  have HO := Lib.hid hown
  have HB := Lib.hid hbl
  obtain ⟨g0, g1, g5, g6⟩ := HF.out wr hbl
  clear hown hbl
  by_cases hlt : k < n
  ·have HVS := Lib.hid (HSET.out k hlt)
   have hpl := HLEN.out k (by omega)
   have HRk := Lib.hid (HR.out k)
   have hAk := HA.out k
   by_cases hst : k < st.length
   ·obtain ⟨b, off, cap', hs', _, hb, _, hcell, _⟩ := KI.cells ((HS.out.then HB0.out).then HB.out) (by omega)
    simp only [Value.slice.injEq] at hs'
    obtain ⟨rfl, _, rfl⟩ := hs'
    have e1 := hcell k hst
    clear hcell
    rw [hAk] at HVS HRk
    clear hAk
    have hvf := Lib.hid (HS.out.2.1 _ (getD_mem' st k 0 hst))
    generalize st.getD k 0 = vol at *
    go_wp2_with fail
    refine (HNEW.out cap vol HRk.out _).mono ?_
    rintro e w2 ⟨rfl, hb2⟩
    have HB2 := Lib.hid (Below.call HB.out hb2)
    have HO2 := Lib.hid (HO.out.below hb2)
    have HFT := Lib.hid (right_fit HRk.out)
    clear hb2 g0 g1 g5 g6
    obtain ⟨g0, g1, g5, g6⟩ := HF.out w2 HB2.out
    obtain ⟨q0, q1, q2, z0, z1, z2⟩ := KE.Own.at3 HO2.out hpl k hlt
    generalize (pf k).getD k ce0 = old at *
    go_wp2
    go_roundw
    case rel =>
     have hp := Lk.Own.put3 (K := KE) rfl HO2.out hpl k hlt ⟨cap, vol, 0⟩ _ _ _ rfl HFT.out
     refine ⟨k + 1, by omega, num_i (by omega), by rw [← HVS.out]; exact hp, ?_⟩
     have hge := HSZ.out
     exact ((HB2.out.setCell (by show w0.heap.size ≤ w.heap.size + 1; omega) _).setCell (by show w0.heap.size ≤ w.heap.size + 1; omega) _).setCell (by show w0.heap.size ≤ w.heap.size + 1; omega) _
    case measure => simp [intOf]; omega
   ·rw [hAk, getD_past st k hst] at HVS HRk
    clear hAk
    go_wp2_with fail
    refine (HNEW.out cap 0 HRk.out _).mono ?_
    rintro e w2 ⟨rfl, hb2⟩
    have HB2 := Lib.hid (Below.call HB.out hb2)
    have HO2 := Lib.hid (HO.out.below hb2)
    have HFT := Lib.hid (right_fit HRk.out)
    clear hb2 g0 g1 g5 g6
    obtain ⟨g0, g1, g5, g6⟩ := HF.out w2 HB2.out
    obtain ⟨q0, q1, q2, z0, z1, z2⟩ := KE.Own.at3 HO2.out hpl k hlt
    generalize (pf k).getD k ce0 = old at *
    go_wp2
    go_roundw
    case rel =>
     have hp := Lk.Own.put3 (K := KE) rfl HO2.out hpl k hlt ⟨cap, 0, 0⟩ _ _ _ rfl HFT.out
     refine ⟨k + 1, by omega, num_i (by omega), by rw [← HVS.out]; exact hp, ?_⟩
     have hge := HSZ.out
     exact ((HB2.out.setCell (by show w0.heap.size ≤ w.heap.size + 1; omega) _).setCell (by show w0.heap.size ≤ w.heap.size + 1; omega) _).setCell (by show w0.heap.size ≤ w.heap.size + 1; omega) _
    case measure => simp [intOf]; omega
  ·obtain rfl : k = n := by omega
   rw [HFL.out] at HO
   go_wp2
   go_ret
   exact ⟨_, rfl, HO.out.mono (by omega), Below.call HB0.out HB.out⟩
end Go.Proofs.YtacjonncakhhmaaGreat
