/- What must come of every program (layer 9). -/
import Derived.Test.YtlgpnjbhmoomfaaZQ
namespace Go.Proofs.Ytlgpnjbhmoomfaa
open Go.RowKit

def litZB : List Nat := [0, 4621256167635550208, 4625759767262920704, 4628293042053316608]
def litZP : Pl := ⟨1, 2, 4616752568008179712, 4621256167635550208, 4616752568008179712, 5, none, 0, 0, []⟩
/-- The example's deck, wherever its lists lie. -/
def litZ (A P : Option Addr) : Dk := ⟨A, 4, 4, litZB, P, 1, 1, [litZP], none, 0, 0, [], 1⟩
theorem lz_b : chkE litZB = 0 := by decide +kernel
theorem lz_row : rowV litZB ⟨1, 2, 4616752568008179712, 4621256167635550208, 4616752568008179712⟩ = [(0, 1, 0), (1, 2, 0)] := by decide +kernel
theorem lz_mid : midO 4616752568008179712 4621256167635550208 (cf 1) = some 4623789442425946112 := by decide +kernel
theorem lz_eq : (FloatKind.f64.format.order 4623789442425946112 4623789442425946112 == some .eq) = true := by decide +kernel
theorem lz_chk (A P : Option Addr) : dchk (litZ A P) = 0 := by
  unfold dchk
  rw [show (litZ A P).bl = litZB from rfl, if_neg (by rw [lz_b]; simp)]
  kernel_rfl
theorem lz_racks (A P : Option Addr) : racksL (litZ A P) = [⟨1, 2, 4616752568008179712, 4621256167635550208, 4616752568008179712⟩] := rfl
theorem lz_z (A P : Option Addr) : zchk (litZ A P) = 0 := by
  unfold zchk zE
  rw [if_pos (lz_chk A P), lz_racks, List.flatMap_cons, List.flatMap_nil, List.append_nil]
  show fstE (rowV litZB _) = 0
  rw [lz_row]
  rfl
theorem lz_tab (A P : Option Addr) : tabV (litZ A P) = [(0, 1), (1, 2), (0, 0), (1, 1), (2, 2)] := by
  unfold tabV
  rw [if_pos (lz_z A P), tab_eq, lz_racks, List.flatMap_cons, List.flatMap_nil, List.append_nil]
  show pairs (blkV litZB _ ++ _) = _
  unfold blkV
  rw [lz_row]
  rfl
theorem lz_part (A P : Option Addr) : partV (litZ A P) 1 = (⟨1, 0, 0, 1⟩, 0) := by
  unfold partV
  rw [if_pos (lz_chk A P)]
  kernel_rfl
theorem lz_cnt (A P : Option Addr) : frst (litZ A P) = 2 := by
  unfold frst cntV
  rw [if_pos (lz_chk A P)]
  kernel_rfl
theorem lz_in (A P : Option Addr) (id : Int) : inR (litZ A P) id = decide (0 ≤ id ∧ id < 5) := by
  unfold inR
  rw [lz_tab]
  rfl
theorem lz_sp (A P : Option Addr) (id : Int) : spA (litZ A P) id = ([(0, 1), (1, 2), (0, 0), (1, 1), (2, 2)] : List (Int × Int)).getD id.toNat (0, 0) := by
  unfold spA
  rw [lz_tab]
theorem lz_e (A P : Option Addr) (ids : List Int) (h : ids.all (fun id => decide (0 ≤ id ∧ id < 5)) = true) : spsE (litZ A P) ids = 0 := by
  unfold spsE
  rw [if_pos (lz_z A P), if_pos]
  rw [← h]
  congr 1
  funext id
  exact lz_in A P id
theorem lz_at (A P : Option Addr) (m : Nat) (h : AtM (litZ A P) 1 m) : atE (litZ A P) 1 = 0 ∧ m = 4623789442425946112 := by
  have e : atE (litZ A P) 1 = 0 := by
    unfold atE
    rw [lz_part]
    rfl
  have := h.2 e
  rw [lz_part] at this
  have h2 : Mid 4616752568008179712 4621256167635550208 (cf 1) m := this
  unfold Mid at h2
  rw [lz_mid] at h2
  exact ⟨e, h2⟩
theorem lz_cl (A P : Option Addr) : clV (litZ A P) 0 1 = true := by
  unfold clV
  rw [if_pos (lz_e A P [0, 1] (by decide)), lz_sp, lz_sp]
  decide
theorem lz_set (A P : Option Addr) : setV (litZ A P) [0] = [2, 3] := by
  unfold setV spsL
  rw [if_pos (lz_e A P [0] (by decide))]
  show foldS (litZ A P) [spA (litZ A P) 0] = _
  rw [lz_sp]
  unfold foldS lanP
  rw [lz_cnt]
  rfl
theorem lz_path (A P : Option Addr) : pathV (litZ A P) 0 4 = [2, 3, 4] := by
  unfold pathV
  rw [if_pos (lz_e A P [0, 4] (by decide)), lz_sp, lz_sp, lz_cnt]
  rfl
theorem lz_i {w : World} {B : Nat} {v : Value} {xs : List Int} (h : KI.IsL w B v xs) : ∃ A cap, v = .slice A xs.length cap := by
  obtain ⟨⟨A, cap, e, _⟩, _⟩ := h
  exact ⟨A, cap, e⟩

set_option maxRecDepth 100000 in
set_option maxHeartbeats 4000000 in
theorem lz_In (w : World) : (litZ (some ⟨w.heap.size, 0, none⟩) (some ⟨w.heap.size + 1, 0, none⟩)).In ((w.alloc (.cells #[.float .f64 0, .float .f64 4621256167635550208, .float .f64 4625759767262920704, .float .f64 4628293042053316608] 34)).alloc (.cells #[.int .i64 1, .int .i64 2, .float .f64 4616752568008179712, .float .f64 4621256167635550208, .float .f64 4616752568008179712, .int .i64 5, .slice none 0 0] 75)) (w.heap.size + 1 + 1) := by
  show (litZ (some ⟨w.heap.size, 0, none⟩) (some ⟨w.heap.size + 1, 0, none⟩)).In ((w.alloc (.cells #[.float .f64 0, .float .f64 4621256167635550208, .float .f64 4625759767262920704, .float .f64 4628293042053316608] 34)).alloc (.cells #[.int .i64 1, .int .i64 2, .float .f64 4616752568008179712, .float .f64 4621256167635550208, .float .f64 4616752568008179712, .int .i64 5, .slice none 0 0] 75)) (w.heap.size + 1 + 1)
  have hA := Lk.IsL.lits (K := KF) w litZB #[.float .f64 0, .float .f64 4621256167635550208, .float .f64 4625759767262920704, .float .f64 4628293042053316608] (show ∀ x ∈ litZB, x < 18446744073709551616 by decide) rfl (by decide) w.heap.size rfl
  have hw2 : w.alloc (.cells #[.float .f64 0, .float .f64 4621256167635550208, .float .f64 4625759767262920704, .float .f64 4628293042053316608] KF.E) = w.alloc (.cells #[.float .f64 0, .float .f64 4621256167635550208, .float .f64 4625759767262920704, .float .f64 4628293042053316608] 34) := rfl
  rw [hw2] at hA
  have hs2 : (w.alloc (.cells #[.float .f64 0, .float .f64 4621256167635550208, .float .f64 4625759767262920704, .float .f64 4628293042053316608] 34)).heap.size = w.heap.size + 1 := by simp
  have hP := Lk.IsL.lits (K := KP) (w.alloc (.cells #[.float .f64 0, .float .f64 4621256167635550208, .float .f64 4625759767262920704, .float .f64 4628293042053316608] 34)) [litZP] #[.int .i64 1, .int .i64 2, .float .f64 4616752568008179712, .float .f64 4621256167635550208, .float .f64 4616752568008179712, .int .i64 5, .slice none 0 0] (show ∀ x ∈ [litZP], KP.ok x from fun x hx => by rw [List.mem_singleton.1 hx]; exact ⟨by unfold fits litZP; decide, by unfold fits litZP; decide, by decide, by decide, by decide, by unfold fits litZP; decide⟩) rfl (by decide) (w.heap.size + 1) hs2
  have hw3 : (w.alloc (.cells #[.float .f64 0, .float .f64 4621256167635550208, .float .f64 4625759767262920704, .float .f64 4628293042053316608] 34)).alloc (.cells #[.int .i64 1, .int .i64 2, .float .f64 4616752568008179712, .float .f64 4621256167635550208, .float .f64 4616752568008179712, .int .i64 5, .slice none 0 0] KP.E) = (w.alloc (.cells #[.float .f64 0, .float .f64 4621256167635550208, .float .f64 4625759767262920704, .float .f64 4628293042053316608] 34)).alloc (.cells #[.int .i64 1, .int .i64 2, .float .f64 4616752568008179712, .float .f64 4621256167635550208, .float .f64 4616752568008179712, .int .i64 5, .slice none 0 0] 75) := rfl
  rw [hw3] at hP
  refine ⟨?_, hP, Lk.IsL.nil _ _ _ _, fun q hq => ?_, by show fits 1; unfold fits; decide⟩
  · have hb : Below (w.heap.size + 1) (w.alloc (.cells #[.float .f64 0, .float .f64 4621256167635550208, .float .f64 4625759767262920704, .float .f64 4628293042053316608] 34)) ((w.alloc (.cells #[.float .f64 0, .float .f64 4621256167635550208, .float .f64 4625759767262920704, .float .f64 4628293042053316608] 34)).alloc (.cells #[.int .i64 1, .int .i64 2, .float .f64 4616752568008179712, .float .f64 4621256167635550208, .float .f64 4616752568008179712, .int .i64 5, .slice none 0 0] 75)) := by
      rw [← hs2]
      exact Below.al (Below.refl _ _) _
    exact (hA.below hb).more (by omega)
  · have hq' : q = litZP := List.mem_singleton.1 hq
    subst hq'
    exact Lk.IsL.nil _ _ _ _

theorem lz_two {w : World} {B : Nat} {v : Value} (h : KI.IsL w B v [2, 3]) : ∃ b off cap, v = .slice (some ⟨b, off, none⟩) 2 cap ∧ w.cell? ⟨b, off, none⟩ = some (.int .i64 2) := by
  obtain ⟨b, off, cap, e, _, _, _, hcell, _⟩ := KI.cells h (by simp)
  exact ⟨b, off, cap, e, by simpa using hcell 0 (by simp)⟩
set_option maxRecDepth 100000 in
set_option maxHeartbeats 8000000 in
theorem lives9 (w : World) : Calls Try.prog 12 #[] w fun e w' => e = .returned (.bool true) ∧ Below w.heap.size w w' := by
  have HQ := Lib.hid lz_eq
  have hsf := fun (w : World) (a : Addr) (m : Mode) (b : Nat) => run_store_float (P := Try.prog) (w := w) (a := a) (m := m) .f64 b
  obtain ⟨w0, hw0⟩ : ∃ w0, w0 = ((w.alloc (.cells #[.float .f64 0, .float .f64 4621256167635550208, .float .f64 4625759767262920704, .float .f64 4628293042053316608] 34)).alloc (.cells #[.int .i64 1, .int .i64 2, .float .f64 4616752568008179712, .float .f64 4621256167635550208, .float .f64 4616752568008179712, .int .i64 5, .slice none 0 0] 75)).alloc (.cells #[.slice (some ⟨w.heap.size, 0, none⟩) 4 4, .slice (some ⟨w.heap.size + 1, 0, none⟩) 1 1, .slice none 0 0, .int .i64 1] 26) := ⟨_, rfl⟩
  have HB0 := Lib.hid (show Below w.heap.size w w0 by rw [hw0]; exact Below.al (Below.al (Below.al (Below.refl _ _) _) _) _)
  have HD0 := Lib.hid (show (litZ (some ⟨w.heap.size, 0, none⟩) (some ⟨w.heap.size + 1, 0, none⟩)).In w0 w0.heap.size by
    have h := lz_In w
    have hs : ((w.alloc (.cells #[.float .f64 0, .float .f64 4621256167635550208, .float .f64 4625759767262920704, .float .f64 4628293042053316608] 34)).alloc (.cells #[.int .i64 1, .int .i64 2, .float .f64 4616752568008179712, .float .f64 4621256167635550208, .float .f64 4616752568008179712, .int .i64 5, .slice none 0 0] 75)).heap.size = w.heap.size + 1 + 1 := by simp
    rw [← hs] at h
    rw [hw0]
    exact h.then (Below.al (Below.refl _ _) _))
  have HF := Lib.hid (show ∀ w1, Below w0.heap.size w0 w1 → (w1.cell? ⟨w.heap.size + 1 + 1, 0, none⟩ = some (.slice (some ⟨w.heap.size, 0, none⟩) 4 4) ∧ w1.cell? ⟨w.heap.size + 1 + 1, 1, none⟩ = some (.slice (some ⟨w.heap.size + 1, 0, none⟩) 1 1) ∧ w1.cell? ⟨w.heap.size + 1 + 1, 2, none⟩ = some (.slice none 0 0) ∧ w1.cell? ⟨w.heap.size + 1 + 1, 3, none⟩ = some (.int .i64 1)) from by
      intro w1 hb
      refine ⟨keep_cell hb ?_, keep_cell hb ?_, keep_cell hb ?_, keep_cell hb ?_⟩
      all_goals (rw [hw0]; simp [go_sem]))
  have hsz0 : w.heap.size + 1 + 1 < w0.heap.size := by rw [hw0]; simp
  obtain ⟨A, hA⟩ : ∃ A, A = some (⟨w.heap.size, 0, none⟩ : Addr) := ⟨_, rfl⟩
  obtain ⟨P, hP⟩ : ∃ P, P = some (⟨w.heap.size + 1, 0, none⟩ : Addr) := ⟨_, rfl⟩
  rw [← hA, ← hP] at HF HD0
  have hv : (litZ A P).v = .agg #[.slice A 4 4, .slice P 1 1, .slice none 0 0, .int .i64 1] := rfl
  have C1 := Lib.hid (fun (V : World) (h : Below w0.heap.size w0 V) => at_any (litZ A P) 1 (by unfold fits; decide) V (HD0.out.then h))
  have C2 := Lib.hid (fun (V : World) (h : Below w0.heap.size w0 V) => show Calls Try.prog 13 #[.agg #[.slice A 4 4, .slice P 1 1, .slice none 0 0, .int .i64 1], .int .i64 1] V fun e w' => e = .returned (.tuple #[.agg #[.int .i64 1, .int .i64 2], .int .i64 0]) ∧ Below V.heap.size V w' by
    have := span_in (litZ A P) 1 (by unfold fits; decide) (lz_z A P) (by rw [lz_in]; decide) V (HD0.out.then h)
    rw [lz_sp] at this
    exact this)
  have C3 := Lib.hid (fun (V : World) (h : Below w0.heap.size w0 V) => show Calls Try.prog 26 #[.agg #[.slice A 4 4, .slice P 1 1, .slice none 0 0, .int .i64 1], .int .i64 0, .int .i64 1] V fun e w' => e = .returned (.tuple #[.bool true, .int .i64 0]) ∧ Below V.heap.size V w' by
    have := clash_any (litZ A P) 0 1 (by unfold fits; decide) (by unfold fits; decide) V (HD0.out.then h)
    rw [lz_cl, lz_e A P [0, 1] (by decide)] at this
    exact this)
  have C4 := Lib.hid (fun (V : World) (v : Value) (h : Below w0.heap.size w0 V) (hv : KI.IsL V V.heap.size v [0]) => show Calls Try.prog 23 #[.agg #[.slice A 4 4, .slice P 1 1, .slice none 0 0, .int .i64 1], v] V fun e w' => ∃ u, e = .returned (.tuple #[u, .int .i64 0]) ∧ KI.IsL w' w'.heap.size u [2, 3] ∧ Below V.heap.size V w' by
    have := needs_any (litZ A P) v [0] V (HD0.out.then h) hv (by simp)
    rw [lz_set, lz_e A P [0] (by decide)] at this
    exact this)
  have C5 := Lib.hid (fun (V : World) (h : Below w0.heap.size w0 V) => show Calls Try.prog 28 #[.agg #[.slice A 4 4, .slice P 1 1, .slice none 0 0, .int .i64 1], .int .i64 0, .int .i64 4] V fun e w' => ∃ u, e = .returned (.tuple #[u, .int .i64 0]) ∧ KI.IsL w' w'.heap.size u [2, 3, 4] ∧ Below V.heap.size V w' by
    have := path_any (litZ A P) 0 4 (by unfold fits; decide) (by unfold fits; decide) V (HD0.out.then h)
    rw [lz_path, lz_e A P [0, 4] (by decide)] at this
    exact this)
  have C6 := Lib.hid (fun (V : World) (h : Below w0.heap.size w0 V) => show Calls Try.prog 19 #[.agg #[.slice A 4 4, .slice P 1 1, .slice none 0 0, .int .i64 1]] V fun e w' => ∃ u, e = .returned (.tuple #[u, .int .i64 0]) ∧ (∃ B c, u = .slice B 5 c) ∧ Below V.heap.size V w' by
    have := table_any (litZ A P) V (HD0.out.then h)
    rw [lz_z] at this
    refine this.mono ?_
    rintro e w' ⟨u, he, ho, hb⟩
    refine ⟨u, he, ?_, hb⟩
    have hi := ho.isL (by rw [lz_tab]; decide)
    obtain ⟨⟨B, c, e2, _⟩, _⟩ := hi
    rw [lz_tab] at e2
    exact ⟨B, c, e2⟩)
  have C7 := Lib.hid (fun (V : World) (h : Below w0.heap.size w0 V) => show Calls Try.prog 21 #[.agg #[.slice A 4 4, .slice P 1 1, .slice none 0 0, .int .i64 1]] V fun e w' => e = .returned (.int .i64 0) ∧ Below V.heap.size V w' by
    have := zcheck_any (litZ A P) V (HD0.out.then h)
    rw [lz_z] at this
    exact this)
  clear hv
  go_enter Try.func12, Try.ntmps12
  go_wp2_with fail
  rw [← hw0, ← hA, ← hP]
  clear hw0 hA hP
  refine (C1.out w0 (Below.refl _ _)).mono ?_
  rintro e w1 ⟨m, rfl, hm, hb1⟩
  obtain ⟨hat, rfl⟩ := lz_at A P m hm
  rw [hat]
  obtain ⟨d0, d1, d2, d3⟩ := HF.out w1 hb1
  have HB1 := Lib.hid hb1
  clear hat hm hb1
  go_wp2_with fail
  refine (C2.out w1 HB1.out).mono ?_
  rintro e w2 ⟨rfl, hb2⟩
  have HB2 := Lib.hid (Below.call HB1.out hb2)
  obtain ⟨f0, f1, f2, f3⟩ := HF.out w2 HB2.out
  have hsw : w.heap.size + 1 + 1 < w2.heap.size := Nat.lt_of_lt_of_le hsz0 HB2.out.size
  clear hb2 d0 d1 d2 d3
  go_wp2_with fail
  refine (C3.out _ (Below.al HB2.out _)).mono ?_
  rintro e w3 ⟨rfl, hb3⟩
  have s0 : w3.cell? ⟨w2.heap.size, 0, none⟩ = some (.int .i64 1) := keep_cell hb3 (by simp)
  have s1 : w3.cell? ⟨w2.heap.size, 1, none⟩ = some (.int .i64 2) := keep_cell hb3 (by simp)
  have HB3 := Lib.hid (Below.call (Below.al HB2.out _) hb3)
  obtain ⟨d0, d1, d2, d3⟩ := HF.out w3 HB3.out
  have hsw3 : w.heap.size + 1 + 1 < w3.heap.size := Nat.lt_of_lt_of_le hsz0 HB3.out.size
  have hsx : w2.heap.size < w3.heap.size := by have := hb3.size; simp at this; omega
  clear hb3 f0 f1 f2 f3
  have HL := Lib.hid (Lk.IsL.lit (K := KI) w3 0 #[.int .i64 0] (show fits 0 by unfold fits; decide) rfl w3.heap.size rfl)
  go_wp2_with fail
  refine (C4.out _ _ (Below.al HB3.out _) (show KI.IsL (w3.alloc (.cells #[.int .i64 0] 3)) (w3.alloc (.cells #[.int .i64 0] 3)).heap.size (.slice (some ⟨w3.heap.size, 0, none⟩) 1 1) [0] from (show (w3.alloc (.cells #[.int .i64 0] 3)).heap.size = w3.heap.size + 1 by simp) ▸ HL.out)).mono ?_
  rintro e w4 ⟨u4, rfl, hu4, hb4⟩
  have hb4' := Below.call (Below.al (Below.refl _ _) _) hb4
  have t0 := keep_cell hb4' s0
  have t1 := keep_cell hb4' s1
  have HB4 := Lib.hid (Below.call HB3.out hb4')
  obtain ⟨f0, f1, f2, f3⟩ := HF.out w4 HB4.out
  obtain ⟨nb, noff, ncap, rfl, n0⟩ := lz_two hu4
  clear hb4 hb4' s0 s1 d0 d1 d2 d3 hu4
  go_wp2_with fail
  refine (C5.out _ HB4.out).mono ?_
  rintro e w5 ⟨u5, rfl, hu5, hb5⟩
  have s0 := keep_cell hb5 t0
  have s1 := keep_cell hb5 t1
  have n1 := keep_cell hb5 n0
  have HB5 := Lib.hid (Below.call HB4.out hb5)
  obtain ⟨d0, d1, d2, d3⟩ := HF.out w5 HB5.out
  obtain ⟨pA, pc, rfl⟩ := lz_i hu5
  clear hb5 t0 t1 n0 f0 f1 f2 f3 hu5
  go_wp2_with fail
  refine (C6.out _ HB5.out).mono ?_
  rintro e w6 ⟨u6, rfl, ⟨tB, tc, rfl⟩, hb6⟩
  have t0 := keep_cell hb6 s0
  have t1 := keep_cell hb6 s1
  have n2 := keep_cell hb6 n1
  have HB6 := Lib.hid (Below.call HB5.out hb6)
  obtain ⟨f0, f1, f2, f3⟩ := HF.out w6 HB6.out
  clear hb6 s0 s1 d0 d1 d2 d3 n1
  have hq := HQ.out
  go_wp2_with fail
  refine (C7.out _ HB6.out).mono ?_
  rintro e w7 ⟨rfl, hb7⟩
  have HB7 := Lib.hid (Below.call HB6.out hb7)
  clear hb7
  go_wp2
  go_ret
  exact ⟨ret_b (by simp), Below.call HB0.out HB7.out⟩
end Go.Proofs.Ytlgpnjbhmoomfaa
