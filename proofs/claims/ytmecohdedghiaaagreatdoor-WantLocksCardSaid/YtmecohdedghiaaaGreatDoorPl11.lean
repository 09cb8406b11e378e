/- Stocks: what all cells hold. -/
import Derived.Test.YtmecohdedghiaaaGreatDoorPl10
import Derived.Test.YtmecohdedghiaaaGreatDoorChecked
import Derived.Test.YtmecohdedghiaaaGreatDoorPl00
import Derived.WalkKit
import Derived.WalkLawsBesides
import Derived.WalkSpells
import Derived.Outline
import Derived.KernelRfl
import Derived.Lib.Hide
import Derived.Test.YtmecohdedghiaaaGreatDoorPl02
import Derived.Test.YtmecohdedghiaaaGreatDoorPl09
import Derived.Laws.StructEq
import Derived.Deep.RegionHeld3
import Derived.RegionTactic
import Derived.Test.YtmecohdedghiaaaGreatDoorPl01
namespace Go.Proofs.YtmecohdedghiaaaGreatDoor
open Go.RowKit
noncomputable def clV (d : Dk) (a b : Int) : Bool := if spsE d [a, b] = 0 then decide ((spA d a).1 ≤ (spA d b).2 ∧ (spA d b).1 ≤ (spA d a).2) else false
noncomputable def pathV (d : Dk) (a b : Int) : List Int := if spsE d [a, b] = 0 then lanesI (frst d) (min (spA d a).1 (spA d b).1).toNat ((max (spA d a).2 (spA d b).2).toNat + 1 - (min (spA d a).1 (spA d b).1).toNat) else []
theorem sps2 (d : Dk) (a b : Int) (h : spsE d [a, b] = 0) : spsL d [a, b] = [spA d a, spA d b] := by unfold spsL; rw [if_pos h]; rfl
theorem two_cells {w : World} {B : Nat} {v : Value} {p q : Int × Int} (h : KS.IsL w B v [p, q]) : ∃ b off cap, v = .slice (some ⟨b, off, none⟩) 2 cap ∧ b < B ∧ 2 ≤ cap ∧ w.cell? ⟨b, off, none⟩ = some (.int .i64 p.1) ∧ w.cell? ⟨b, off + 1, none⟩ = some (.int .i64 p.2) ∧ w.cell? ⟨b, off + 2, none⟩ = some (.int .i64 q.1) ∧ w.cell? ⟨b, off + 3, none⟩ = some (.int .i64 q.2) := by
 obtain ⟨⟨A, cap, rfl, hc, hA⟩, _, _⟩ := id h
 obtain ⟨b, off, rfl, hb, _, hcell⟩ := span_cells h (by simp)
 have h0 := hcell 0 (by simp)
 have h1 := hcell 1 (by simp)
 simp only [Nat.zero_mul, Nat.add_zero, Nat.one_mul] at h0 h1
 exact ⟨b, off, cap, rfl, hb, hc, h0.1, h0.2, h1.1, h1.2⟩
theorem lit2 (w : World) (a b : Int) (ha : fits a) (hb : fits b) (H : Nat) (e : w.heap.size = H) : KI.IsL (w.alloc (.cells #[.int .i64 a, .int .i64 b] 3)) (H + 1) (.slice (some ⟨H, 0, none⟩) 2 2) [a, b] :=
 Lk.IsL.lits (K := KI) w [a, b] #[.int .i64 a, .int .i64 b] (fun x hx => by rcases List.mem_cons.1 hx with rfl | hx; exact ha; rcases List.mem_cons.1 hx with rfl | hx; exact hb; cases hx) rfl (by simp) H e
set_option maxRecDepth 100000 in
set_option maxHeartbeats 8000000 in
theorem path_any (d : Dk) (a b : Int) (ha : fits a) (hb : fits b) (w : World) (hd : d.In w w.heap.size) : Calls Tryz.prog 79 #[d.v, .int .i64 a, .int .i64 b] w fun e w' => ∃ u, e = .returned (.tuple #[u, .int .i64 (spsE d [a, b])]) ∧ KI.IsL w' w'.heap.size u (pathV d a b) ∧ Below w.heap.size w w' := by
 have HD := Lib.hid hd
 have HSP := Lib.hid (fun w v h1 h2 => spans_any d v [a, b] w h1 h2 (by simp))
 have HGD := Lib.hid (sps_good d hd [a, b])
 have HS2 := Lib.hid (sps2 d a b)
 have HE0 := Lib.hid (spsE_0 d [a, b])
 have HRV := Lib.hid (show pathV d a b = if spsE d [a, b] = 0 then lanesI (frst d) (min (spA d a).1 (spA d b).1).toNat ((max (spA d a).2 (spA d b).2).toNat + 1 - (min (spA d a).1 (spA d b).1).toNat) else [] from rfl)
 rw [HRV.out]
 obtain ⟨w0, hw0⟩ : ∃ w0, w0 = (w.alloc (.cells #[.slice d.bA d.bn d.bc, .slice d.pA d.pn d.pc, .slice d.rA d.rn d.rc, .int .i64 d.arms] 26)).alloc (.cells #[.int .i64 a, .int .i64 b] 3) := ⟨_, rfl⟩
 have HB0 := Lib.hid (show Below w.heap.size w w0 by rw [hw0]; exact Below.al (Below.al (Below.refl _ _) _) _)
 have HD0 := Lib.hid (HD.out.then HB0.out)
 have HL0 := Lib.hid (show KI.IsL w0 w0.heap.size (.slice (some ⟨w.heap.size + 1, 0, none⟩) 2 2) [a, b] by
  have := lit2 (w.alloc (.cells #[.slice d.bA d.bn d.bc, .slice d.pA d.pn d.pc, .slice d.rA d.rn d.rc, .int .i64 d.arms] 26)) a b ha hb (w.heap.size + 1) (by simp)
  rw [hw0]
  simpa using this)
 have hsz0 : w.heap.size < w0.heap.size := by rw [hw0]; simp; omega
 have HF := Lib.hid (show ∀ w1, Below w0.heap.size w0 w1 → (w1.cell? ⟨w.heap.size, 0, none⟩ = some (.slice d.bA d.bn d.bc) ∧ w1.cell? ⟨w.heap.size, 1, none⟩ = some (.slice d.pA d.pn d.pc) ∧ w1.cell? ⟨w.heap.size, 2, none⟩ = some (.slice d.rA d.rn d.rc) ∧ w1.cell? ⟨w.heap.size, 3, none⟩ = some (.int .i64 d.arms)) from by
   intro w1 hb
   refine ⟨keep_cell hb ?_, keep_cell hb ?_, keep_cell hb ?_, keep_cell hb ?_⟩
   all_goals (rw [hw0]; simp [go_sem]))
 clear HRV hd
 by_cases hz : spsE d [a, b] = 0
 ·rw [HS2.out hz, hz] at HSP
  rw [HS2.out hz] at HGD
  rw [hz, if_pos rfl]
  have g1 := HGD.out (spA d a) (by simp)
  have g2 := HGD.out (spA d b) (by simp)
  clear hz HS2 HE0 HGD
  generalize spA d a = p at *
  generalize spA d b = q at *
  obtain ⟨p1, p2⟩ := p
  obtain ⟨q1, q2⟩ := q
  dsimp only at *
  obtain ⟨p1, rfl⟩ : ∃ k : Nat, p1 = (k : Int) := ⟨p1.toNat, by omega⟩
  obtain ⟨p2, rfl⟩ : ∃ k : Nat, p2 = (k : Int) := ⟨p2.toNat, by omega⟩
  obtain ⟨q1, rfl⟩ : ∃ k : Nat, q1 = (k : Int) := ⟨q1.toNat, by omega⟩
  obtain ⟨q2, rfl⟩ : ∃ k : Nat, q2 = (k : Int) := ⟨q2.toNat, by omega⟩
  have m1 : min (p1 : Int) q1 = ((min p1 q1 : Nat) : Int) := by omega
  have m2 : max (p2 : Int) q2 = ((max p2 q2 : Nat) : Int) := by omega
  rw [m1, m2, Int.toNat_natCast, Int.toNat_natCast]
  obtain ⟨lo, hlo⟩ : ∃ lo, lo = min p1 q1 := ⟨_, rfl⟩
  obtain ⟨hi, hhi⟩ : ∃ hi, hi = max p2 q2 := ⟨_, rfl⟩
  rw [← hlo, ← hhi]
  have hmm : hi ≤ 23 := by omega
  have hlh : lo ≤ hi := by omega
  have HLO := Lib.hid hlo
  have HHI := Lib.hid hhi
  clear hlo hhi
  go_enter Tryz.func79, Tryz.ntmps79
  go_wp2_with fail
  rw [← hw0]
  clear hw0
  refine (HSP.out w0 _ HD0.out HL0.out).mono ?_
  rintro e w1 ⟨tv, rfl, hown1, hb1⟩
  have HB1 := Lib.hid hb1
  obtain ⟨tb, toff, tcap, rfl, htb, htc, e0, e1, e2, e3⟩ := two_cells (hown1.isL (by simp))
  obtain ⟨d0, d1, d2, d3⟩ := HF.out w1 hb1
  have hsw : w.heap.size < w1.heap.size := Nat.lt_of_lt_of_le hsz0 hb1.size
  clear hb1 hown1
  have HH := Lib.hid (fun w => show Calls Tryz.prog 147 #[.agg #[.int .i64 p1, .int .i64 p2], .agg #[.int .i64 q1, .int .i64 q2]] w fun e w' => e = .returned (.agg #[.int .i64 lo, .int .i64 hi]) ∧ Below w.heap.size w w' by
   have := Sp.hull_any ((p1 : Int), (p2 : Int)) ((q1 : Int), (q2 : Int)) w
   rw [Sp.hullV_yy (show ¬ (p2 : Int) < p1 by omega) (show ¬ (q2 : Int) < q1 by omega)] at this
   dsimp only at this
   rwa [m1, m2, ← HLO.out, ← HHI.out] at this)
  have HLA := Lib.hid (fun (V : World) (h : Below w0.heap.size w0 V) => lanes_any d lo hi hlh hmm V (HD0.out.then h))
  clear m1 m2
  go_wp2_with fail
  refine wp_region_held_drew (S := fun w' => w'.cell? ⟨w.heap.size, 0, none⟩ = some (.slice d.bA d.bn d.bc) ∧ w'.cell? ⟨w.heap.size, 1, none⟩ = some (.slice d.pA d.pn d.pc) ∧ w'.cell? ⟨w.heap.size, 2, none⟩ = some (.slice d.rA d.rn d.rc) ∧ w'.cell? ⟨w.heap.size, 3, none⟩ = some (.int .i64 d.arms) ∧ w'.cell? ⟨tb, toff, none⟩ = some (.int .i64 p1) ∧ w'.cell? ⟨tb, toff + 1, none⟩ = some (.int .i64 p2) ∧ w'.cell? ⟨tb, toff + 2, none⟩ = some (.int .i64 q1) ∧ w'.cell? ⟨tb, toff + 3, none⟩ = some (.int .i64 q2)) (by kernel_rfl) ?_ (fun hHeld => ?_)
  ·exact ⟨d0, d1, d2, d3, e0, e1, e2, e3⟩
  refine wpAnyH_take (i := 0) (oi := ⟨some 21, _, _, _, _, _⟩) (v := ?_) rfl (by kernel_rfl) (by kernel_rfl) (by kernel_rfl) (fun _ _ _ h => h) (Or.inl ⟨by kernel_rfl, ?_⟩) (by assumption) ?_
  rotate_left 1
  ·((intro w hSw; (try dsimp only at hSw); go_simp) <;> (try with_reducible rfl))
  (try simp only [Act.put, List.setIfInBounds_toArray, List.set_cons_zero, List.set_cons_succ])
  refine wpAnyH_take (i := 1) (oi := ⟨some 22, _, _, _, _, _⟩) (v := ?_) rfl (by kernel_rfl) (by kernel_rfl) (by kernel_rfl) (fun _ _ _ h => h) (Or.inl ⟨by kernel_rfl, ?_⟩) (by assumption) ?_
  rotate_left 1
  ·((intro w hSw; (try dsimp only at hSw); go_simp) <;> (try with_reducible rfl))
  (try simp only [Act.put, List.setIfInBounds_toArray, List.set_cons_zero, List.set_cons_succ])
  refine wpAnyH_take (i := 2) (oi := ⟨some 23, _, _, _, _, _⟩) (v := ?_) rfl (by kernel_rfl) (by kernel_rfl) (by kernel_rfl) (fun _ _ _ h => h) (Or.inl ⟨by kernel_rfl, ?_⟩) (by assumption) ?_
  rotate_left 1
  ·((intro w hSw; (try dsimp only at hSw); go_simp) <;> (try with_reducible rfl))
  (try simp only [Act.put, List.setIfInBounds_toArray, List.set_cons_zero, List.set_cons_succ])
  refine wpAnyH_take (i := 3) (oi := ⟨some 24, _, _, _, _, _⟩) (v := ?_) rfl (by kernel_rfl) (by kernel_rfl) (by kernel_rfl) (fun _ _ _ h => h) (Or.inl ⟨by kernel_rfl, ?_⟩) (by assumption) ?_
  rotate_left 1
  ·((intro w hSw; (try dsimp only at hSw); go_simp) <;> (try with_reducible rfl))
  (try simp only [Act.put, List.setIfInBounds_toArray, List.set_cons_zero, List.set_cons_succ])
  refine wpAnyH_take (i := 4) (oi := ⟨some 25, _, _, _, _, _⟩) (v := ?_) rfl (by kernel_rfl) (by kernel_rfl) (by kernel_rfl) (fun _ _ _ h => h) (Or.inl ⟨by kernel_rfl, ?_⟩) (by assumption) ?_
  rotate_left 1
  ·((intro w hSw; (try dsimp only at hSw); go_simp) <;> (try with_reducible rfl))
  (try simp only [Act.put, List.setIfInBounds_toArray, List.set_cons_zero, List.set_cons_succ])
  refine wpAnyH_take (i := 5) (oi := ⟨some 26, _, _, _, _, _⟩) (v := ?_) rfl (by kernel_rfl) (by kernel_rfl) (by kernel_rfl) (fun _ _ _ h => h) (Or.inl ⟨by kernel_rfl, ?_⟩) (by assumption) ?_
  rotate_left 1
  ·((intro w hSw; (try dsimp only at hSw); go_simp) <;> (try with_reducible rfl))
  (try simp only [Act.put, List.setIfInBounds_toArray, List.set_cons_zero, List.set_cons_succ])
  refine wpAnyH_take (i := 6) (oi := ⟨some 27, _, _, _, _, _⟩) (v := ?_) rfl (by kernel_rfl) (by kernel_rfl) (by kernel_rfl) (fun _ _ _ h => h) (Or.inl ⟨by kernel_rfl, ?_⟩) (by assumption) ?_
  rotate_left 1
  ·((intro w hSw; (try dsimp only at hSw); go_simp) <;> (try with_reducible rfl))
  (try simp only [Act.put, List.setIfInBounds_toArray, List.set_cons_zero, List.set_cons_succ])
  clear d0 d1 d2 d3 e0 e1 e2 e3
  refine wpAnyH_ready (rs := [7]) (by kernel_rfl) (by simp) ?_
  refine AllReadyH.cons (o := ⟨some 28, _, _, _, _, _⟩) rfl (fun K hK => ?_) AllReadyH.nil
  go_simp
  refine (HH.out _).mono ?_
  rintro e w6 ⟨rfl, hb⟩
  have HB6 := Lib.hid (Below.call HB1.out.drew hb)
  go_wp2_with fail
  refine hK.out _ _ ?_ (fun hHeld => ?_)
  ·exact ⟨keep_cell hb hHeld.1, keep_cell hb hHeld.2.1, keep_cell hb hHeld.2.2.1, keep_cell hb hHeld.2.2.2.1, keep_cell hb hHeld.2.2.2.2.1, keep_cell hb hHeld.2.2.2.2.2.1, keep_cell hb hHeld.2.2.2.2.2.2.1, keep_cell hb hHeld.2.2.2.2.2.2.2⟩
  clear hK K hb
  (try simp only [Act.put, List.setIfInBounds_toArray, List.set_cons_zero, List.set_cons_succ])
  refine wpAnyH_ready (rs := [8]) (by kernel_rfl) (by simp) ?_
  refine AllReadyH.cons (o := ⟨some 29, _, _, _, _, _⟩) rfl (fun K hK => ?_) AllReadyH.nil
  go_simp
  refine (HLA.out _ HB6.out).mono ?_
  rintro e w7 ⟨lv, rfl, hown7, hb⟩
  have HIL7 := Lib.hid (hown7.isL (by rw [lanes_len]; omega))
  have HB7 := Lib.hid (Below.call HB6.out hb)
  clear hown7
  go_wp2_with fail
  refine hK.out _ _ ?_ (fun hHeld => ?_)
  ·exact ⟨keep_cell hb hHeld.1, keep_cell hb hHeld.2.1, keep_cell hb hHeld.2.2.1, keep_cell hb hHeld.2.2.2.1, keep_cell hb hHeld.2.2.2.2.1, keep_cell hb hHeld.2.2.2.2.2.1, keep_cell hb hHeld.2.2.2.2.2.2.1, keep_cell hb hHeld.2.2.2.2.2.2.2⟩
  clear hK K hb
  (try simp only [Act.put, List.setIfInBounds_toArray, List.set_cons_zero, List.set_cons_succ])
  refine wpAnyH_take (i := 9) (oi := ⟨some 6, _, _, _, _, _⟩) (v := ?_) rfl (by kernel_rfl) (by kernel_rfl) (by kernel_rfl) (fun _ _ _ h => h) (Or.inl ⟨by kernel_rfl, ?_⟩) (by assumption) ?_
  rotate_left 1
  ·((intro w hSw; (try dsimp only at hSw); go_simp) <;> (try with_reducible rfl))
  (try simp only [Act.put, List.setIfInBounds_toArray, List.set_cons_zero, List.set_cons_succ])
  refine wpAnyH_take (i := 10) (oi := ⟨some 7, _, _, _, _, _⟩) (v := ?_) rfl (by kernel_rfl) (by kernel_rfl) (by kernel_rfl) (fun _ _ _ h => h) (Or.inl ⟨by kernel_rfl, ?_⟩) (by assumption) ?_
  rotate_left 1
  ·((intro w hSw; (try dsimp only at hSw); go_simp) <;> (try with_reducible rfl))
  (try simp only [Act.put, List.setIfInBounds_toArray, List.set_cons_zero, List.set_cons_succ])
  refine wpAnyH_done (by kernel_rfl) ?_ _
  go_wp2
  go_ret2
  exact ⟨_, rfl, HIL7.out, Below.call HB0.out HB7.out⟩
 ·rw [HE0.out hz] at HSP
  rw [if_neg hz]
  have hz' : (spsE d [a, b] != 0) = true := by rw [bne_iff_ne]; exact hz
  clear hz HS2 HE0 HGD
  generalize spsE d [a, b] = SE at *
  go_enter Tryz.func79, Tryz.ntmps79
  go_wp2_with fail
  rw [← hw0]
  clear hw0
  refine (HSP.out w0 _ HD0.out HL0.out).mono ?_
  rintro e w1 ⟨tv, rfl, _, hb1⟩
  have HB1 := Lib.hid hb1
  clear hb1
  go_wp2
  go_ret2
  exact ⟨_, rfl, Lk.IsL.nil _ _ _ _, Below.call HB0.out HB1.out⟩
set_option maxRecDepth 100000 in
set_option maxHeartbeats 8000000 in
theorem rpath_any (d : Dk) (a b : Int) (ha : fits a) (hb : fits b) (w : World) (hd : d.In w w.heap.size) : Calls Tryz.prog 44 #[d.v, .int .i64 a, .int .i64 b] w fun e w' => ∃ u, e = .returned (.tuple #[u, .int .i64 (spsE d [a, b])]) ∧ KI.IsL w' w'.heap.size u (pathV d a b) ∧ Below w.heap.size w w' := by
 have HD := Lib.hid hd
 have HSP := Lib.hid (fun w v h1 h2 => rspans_any d v [a, b] w h1 h2 (by simp))
 have HGD := Lib.hid (sps_good d hd [a, b])
 have HS2 := Lib.hid (sps2 d a b)
 have HE0 := Lib.hid (spsE_0 d [a, b])
 have HRV := Lib.hid (show pathV d a b = if spsE d [a, b] = 0 then lanesI (frst d) (min (spA d a).1 (spA d b).1).toNat ((max (spA d a).2 (spA d b).2).toNat + 1 - (min (spA d a).1 (spA d b).1).toNat) else [] from rfl)
 rw [HRV.out]
 obtain ⟨w0, hw0⟩ : ∃ w0, w0 = (w.alloc (.cells #[.slice d.bA d.bn d.bc, .slice d.pA d.pn d.pc, .slice d.rA d.rn d.rc, .int .i64 d.arms] 26)).alloc (.cells #[.int .i64 a, .int .i64 b] 3) := ⟨_, rfl⟩
 have HB0 := Lib.hid (show Below w.heap.size w w0 by rw [hw0]; exact Below.al (Below.al (Below.refl _ _) _) _)
 have HD0 := Lib.hid (HD.out.then HB0.out)
 have HL0 := Lib.hid (show KI.IsL w0 w0.heap.size (.slice (some ⟨w.heap.size + 1, 0, none⟩) 2 2) [a, b] by
  have := lit2 (w.alloc (.cells #[.slice d.bA d.bn d.bc, .slice d.pA d.pn d.pc, .slice d.rA d.rn d.rc, .int .i64 d.arms] 26)) a b ha hb (w.heap.size + 1) (by simp)
  rw [hw0]
  simpa using this)
 have hsz0 : w.heap.size < w0.heap.size := by rw [hw0]; simp; omega
 have HF := Lib.hid (show ∀ w1, Below w0.heap.size w0 w1 → (w1.cell? ⟨w.heap.size, 0, none⟩ = some (.slice d.bA d.bn d.bc) ∧ w1.cell? ⟨w.heap.size, 1, none⟩ = some (.slice d.pA d.pn d.pc) ∧ w1.cell? ⟨w.heap.size, 2, none⟩ = some (.slice d.rA d.rn d.rc) ∧ w1.cell? ⟨w.heap.size, 3, none⟩ = some (.int .i64 d.arms)) from by
   intro w1 hb
   refine ⟨keep_cell hb ?_, keep_cell hb ?_, keep_cell hb ?_, keep_cell hb ?_⟩
   all_goals (rw [hw0]; simp [go_sem]))
 clear HRV hd
 by_cases hz : spsE d [a, b] = 0
 ·rw [HS2.out hz, hz] at HSP
  rw [HS2.out hz] at HGD
  rw [hz, if_pos rfl]
  have g1 := HGD.out (spA d a) (by simp)
  have g2 := HGD.out (spA d b) (by simp)
  clear hz HS2 HE0 HGD
  generalize spA d a = p at *
  generalize spA d b = q at *
  obtain ⟨p1, p2⟩ := p
  obtain ⟨q1, q2⟩ := q
  dsimp only at *
  obtain ⟨p1, rfl⟩ : ∃ k : Nat, p1 = (k : Int) := ⟨p1.toNat, by omega⟩
  obtain ⟨p2, rfl⟩ : ∃ k : Nat, p2 = (k : Int) := ⟨p2.toNat, by omega⟩
  obtain ⟨q1, rfl⟩ : ∃ k : Nat, q1 = (k : Int) := ⟨q1.toNat, by omega⟩
  obtain ⟨q2, rfl⟩ : ∃ k : Nat, q2 = (k : Int) := ⟨q2.toNat, by omega⟩
  have m1 : min (p1 : Int) q1 = ((min p1 q1 : Nat) : Int) := by omega
  have m2 : max (p2 : Int) q2 = ((max p2 q2 : Nat) : Int) := by omega
  rw [m1, m2, Int.toNat_natCast, Int.toNat_natCast]
  obtain ⟨lo, hlo⟩ : ∃ lo, lo = min p1 q1 := ⟨_, rfl⟩
  obtain ⟨hi, hhi⟩ : ∃ hi, hi = max p2 q2 := ⟨_, rfl⟩
  rw [← hlo, ← hhi]
  have hmm : hi ≤ 23 := by omega
  have hlh : lo ≤ hi := by omega
  have HLO := Lib.hid hlo
  have HHI := Lib.hid hhi
  clear hlo hhi
  go_enter Tryz.func44, Tryz.ntmps44
  go_wp2_with fail
  rw [← hw0]
  clear hw0
  refine (HSP.out w0 _ HD0.out HL0.out).mono ?_
  rintro e w1 ⟨tv, rfl, hown1, hb1⟩
  have HB1 := Lib.hid hb1
  obtain ⟨tb, toff, tcap, rfl, htb, htc, e0, e1, e2, e3⟩ := two_cells (hown1.isL (by simp))
  obtain ⟨d0, d1, d2, d3⟩ := HF.out w1 hb1
  have hsw : w.heap.size < w1.heap.size := Nat.lt_of_lt_of_le hsz0 hb1.size
  clear hb1 hown1
  clear m1 m2
  have HLA := Lib.hid (fun (V : World) (h : Below w0.heap.size w0 V) => (rlanes_any d lo hi hlh hmm V (HD0.out.then h)).mono (R' := fun e w' => ∃ u, e = .returned u ∧ KI.IsL w' w'.heap.size u (lanesI (frst d) lo (hi + 1 - lo)) ∧ Below w0.heap.size w0 w') (fun e w' ⟨u, he, ho, hb⟩ => ⟨u, he, ho.isL (by rw [lanes_len]; omega), Below.call h hb⟩))
  by_cases c1 : (q1 : Int) < p1
  ·by_cases c2 : (p2 : Int) < q2
   ·have c1' : decide ((q1 : Int) < p1) = true := decide_eq_true c1
    have c2' : decide ((p2 : Int) < q2) = true := decide_eq_true c2
    have HL' := Lib.hid (show lo = q1 by have := HLO.out; omega)
    have HH' := Lib.hid (show hi = q2 by have := HHI.out; omega)
    go_wp2_with fail
    go_quiet (fail)
    go_wp2_with fail
    go_quiet (fail)
    go_wp2_with fail
    obtain rfl := HL'.out
    obtain rfl := HH'.out
    refine (HLA.out _ (by (repeat (first | exact HB1.out | (with_reducible refine below_drewN ?_ _) | (with_reducible refine Below.st ?_ HB1.out.size) | (with_reducible refine Below.al ?_ _))))).mono ?_
    rintro e w7 ⟨lv, rfl, hil7, hb7⟩
    have HIL7 := Lib.hid hil7
    have HB7 := Lib.hid hb7
    clear hil7 hb7
    go_wp2
    go_ret2
    exact ⟨_, rfl, HIL7.out, Below.call HB0.out HB7.out⟩
   ·have c1' : decide ((q1 : Int) < p1) = true := decide_eq_true c1
    have c2' : decide ((p2 : Int) < q2) = false := decide_eq_false c2
    have HL' := Lib.hid (show lo = q1 by have := HLO.out; omega)
    have HH' := Lib.hid (show hi = p2 by have := HHI.out; omega)
    go_wp2_with fail
    go_quiet (fail)
    go_wp2_with fail
    go_quiet (fail)
    go_wp2_with fail
    obtain rfl := HL'.out
    obtain rfl := HH'.out
    refine (HLA.out _ (by (repeat (first | exact HB1.out | (with_reducible refine below_drewN ?_ _) | (with_reducible refine Below.st ?_ HB1.out.size) | (with_reducible refine Below.al ?_ _))))).mono ?_
    rintro e w7 ⟨lv, rfl, hil7, hb7⟩
    have HIL7 := Lib.hid hil7
    have HB7 := Lib.hid hb7
    clear hil7 hb7
    go_wp2
    go_ret2
    exact ⟨_, rfl, HIL7.out, Below.call HB0.out HB7.out⟩
  ·by_cases c2 : (p2 : Int) < q2
   ·have c1' : decide ((q1 : Int) < p1) = false := decide_eq_false c1
    have c2' : decide ((p2 : Int) < q2) = true := decide_eq_true c2
    have HL' := Lib.hid (show lo = p1 by have := HLO.out; omega)
    have HH' := Lib.hid (show hi = q2 by have := HHI.out; omega)
    go_wp2_with fail
    go_quiet (fail)
    go_wp2_with fail
    go_quiet (fail)
    go_wp2_with fail
    obtain rfl := HL'.out
    obtain rfl := HH'.out
    refine (HLA.out _ (by (repeat (first | exact HB1.out | (with_reducible refine below_drewN ?_ _) | (with_reducible refine Below.st ?_ HB1.out.size) | (with_reducible refine Below.al ?_ _))))).mono ?_
    rintro e w7 ⟨lv, rfl, hil7, hb7⟩
    have HIL7 := Lib.hid hil7
    have HB7 := Lib.hid hb7
    clear hil7 hb7
    go_wp2
    go_ret2
    exact ⟨_, rfl, HIL7.out, Below.call HB0.out HB7.out⟩
   ·have c1' : decide ((q1 : Int) < p1) = false := decide_eq_false c1
    have c2' : decide ((p2 : Int) < q2) = false := decide_eq_false c2
    have HL' := Lib.hid (show lo = p1 by have := HLO.out; omega)
    have HH' := Lib.hid (show hi = p2 by have := HHI.out; omega)
    go_wp2_with fail
    go_quiet (fail)
    go_wp2_with fail
    go_quiet (fail)
    go_wp2_with fail
    obtain rfl := HL'.out
    obtain rfl := HH'.out
    refine (HLA.out _ (by (repeat (first | exact HB1.out | (with_reducible refine below_drewN ?_ _) | (with_reducible refine Below.st ?_ HB1.out.size) | (with_reducible refine Below.al ?_ _))))).mono ?_
    rintro e w7 ⟨lv, rfl, hil7, hb7⟩
    have HIL7 := Lib.hid hil7
    have HB7 := Lib.hid hb7
    clear hil7 hb7
    go_wp2
    go_ret2
    exact ⟨_, rfl, HIL7.out, Below.call HB0.out HB7.out⟩
 ·rw [HE0.out hz] at HSP
  rw [if_neg hz]
  have hz' : (spsE d [a, b] != 0) = true := by rw [bne_iff_ne]; exact hz
  clear hz HS2 HE0 HGD
  generalize spsE d [a, b] = SE at *
  go_enter Tryz.func44, Tryz.ntmps44
  go_wp2_with fail
  rw [← hw0]
  clear hw0
  refine (HSP.out w0 _ HD0.out HL0.out).mono ?_
  rintro e w1 ⟨tv, rfl, _, hb1⟩
  have HB1 := Lib.hid hb1
  clear hb1
  go_wp2
  go_ret2
  exact ⟨_, rfl, Lk.IsL.nil _ _ _ _, Below.call HB0.out HB1.out⟩
end Go.Proofs.YtmecohdedghiaaaGreatDoor
namespace Go.Proofs.YtmecohdedghiaaaGreatDoor
open Go.RowKit
end Go.Proofs.YtmecohdedghiaaaGreatDoor
namespace Go.Proofs.YtmecohdedghiaaaGreatDoor.Cel
open Go.RowKit
/-- A cell: capacity, volume, version. -/
structure Ce where
 a : Int
 b : Int
 c : Int
abbrev Ce.v (x : Ce) : Value := .agg #[.int .i64 x.a, .int .i64 x.b, .int .i64 x.c]
structure Ce.Fit (x : Ce) : Prop where
 a : fits x.a
 b : fits x.b
 c : fits x.c
def Ce.Right (x : Ce) : Prop := 1 ≤ x.a ∧ x.a ≤ 1099511627776 ∧ 0 ≤ x.b ∧ x.b ≤ x.a ∧ 0 ≤ x.c ∧ x.c ≤ 2147483647
instance (x : Ce) : Decidable x.Right := by unfold Ce.Right; infer_instance
def rightB (x : Ce) : Bool := decide x.Right
def chE (x : Ce) (n : Int) : Int := if ¬ x.Right then 100 else if n = 0 then 1 else if x.c = 2147483647 then 101 else if x.b + n < 0 then 102 else if x.a < x.b + n then 103 else 0
def nought : Ce := ⟨0, 0, 0⟩
def chV (x : Ce) (n : Int) : Ce := if chE x n = 0 then ⟨x.a, x.b + n, x.c + 1⟩ else nought
theorem Below.box {w w' : World} (o : Obj) (h : Below (w.alloc o).heap.size (w.alloc o) w') : Below w.heap.size w w' := Below.call (Below.al (Below.refl _ _) o) h
set_option maxRecDepth 100000 in
set_option maxHeartbeats 2000000 in
theorem right_any (x : Ce) (w : World) : Calls Tryz.prog 164 #[x.v] w fun e w' => e = .returned (.bool (rightB x)) ∧ Below w.heap.size w w' := by
 obtain ⟨a, b, c⟩ := x
 show Calls Tryz.prog 164 #[.agg #[.int .i64 a, .int .i64 b, .int .i64 c]] w fun e w' => e = .returned (.bool (decide (1 ≤ a ∧ a ≤ 1099511627776 ∧ 0 ≤ b ∧ b ≤ a ∧ 0 ≤ c ∧ c ≤ 2147483647))) ∧ Below w.heap.size w w'
 by_cases h1 : 1 ≤ a
 ·by_cases h2 : a ≤ 1099511627776
  ·by_cases h3 : 0 ≤ b
   ·by_cases h4 : b ≤ a
    ·by_cases h5 : 0 ≤ c
     ·by_cases h6 : c ≤ 2147483647
      ·rw [show decide (1 ≤ a ∧ a ≤ 1099511627776 ∧ 0 ≤ b ∧ b ≤ a ∧ 0 ≤ c ∧ c ≤ 2147483647) = true from decide_eq_true ⟨h1, h2, h3, h4, h5, h6⟩]
       go_enter Tryz.func164, Tryz.ntmps164
       go_wp2
       go_ret
       exact ⟨ret_b (by simp), Below.al (Below.refl _ _) _⟩
      ·rw [show decide (1 ≤ a ∧ a ≤ 1099511627776 ∧ 0 ≤ b ∧ b ≤ a ∧ 0 ≤ c ∧ c ≤ 2147483647) = false from decide_eq_false (by omega)]
       go_enter Tryz.func164, Tryz.ntmps164
       go_wp2
       go_ret
       exact ⟨ret_b (by simp), Below.al (Below.refl _ _) _⟩
     ·rw [show decide (1 ≤ a ∧ a ≤ 1099511627776 ∧ 0 ≤ b ∧ b ≤ a ∧ 0 ≤ c ∧ c ≤ 2147483647) = false from decide_eq_false (by omega)]
      go_enter Tryz.func164, Tryz.ntmps164
      go_wp2
      go_ret
      exact ⟨ret_b (by simp), Below.al (Below.refl _ _) _⟩
    ·rw [show decide (1 ≤ a ∧ a ≤ 1099511627776 ∧ 0 ≤ b ∧ b ≤ a ∧ 0 ≤ c ∧ c ≤ 2147483647) = false from decide_eq_false (by omega)]
     go_enter Tryz.func164, Tryz.ntmps164
     go_wp2
     go_ret
     exact ⟨ret_b (by simp), Below.al (Below.refl _ _) _⟩
   ·rw [show decide (1 ≤ a ∧ a ≤ 1099511627776 ∧ 0 ≤ b ∧ b ≤ a ∧ 0 ≤ c ∧ c ≤ 2147483647) = false from decide_eq_false (by omega)]
    go_enter Tryz.func164, Tryz.ntmps164
    go_wp2
    go_ret
    exact ⟨ret_b (by simp), Below.al (Below.refl _ _) _⟩
  ·rw [show decide (1 ≤ a ∧ a ≤ 1099511627776 ∧ 0 ≤ b ∧ b ≤ a ∧ 0 ≤ c ∧ c ≤ 2147483647) = false from decide_eq_false (by omega)]
   go_enter Tryz.func164, Tryz.ntmps164
   go_wp2
   go_ret
   exact ⟨ret_b (by simp), Below.al (Below.refl _ _) _⟩
 ·rw [show decide (1 ≤ a ∧ a ≤ 1099511627776 ∧ 0 ≤ b ∧ b ≤ a ∧ 0 ≤ c ∧ c ≤ 2147483647) = false from decide_eq_false (by omega)]
  go_enter Tryz.func164, Tryz.ntmps164
  go_wp2
  go_ret
  exact ⟨ret_b (by simp), Below.al (Below.refl _ _) _⟩
end Go.Proofs.YtmecohdedghiaaaGreatDoor.Cel
namespace Go.Proofs.YtmecohdedghiaaaGreatDoor.Cel
open Go.RowKit
abbrev ceV (a b c : Int) : Value := .agg #[.int .i64 a, .int .i64 b, .int .i64 c]
/-- A cell and an error. -/
abbrev ceE (x : Ce) (e : Int) : Value := .tuple #[.agg #[.int .i64 x.a, .int .i64 x.b, .int .i64 x.c], .int .i64 e]
end Go.Proofs.YtmecohdedghiaaaGreatDoor.Cel
namespace Go.Proofs.YtmecohdedghiaaaGreatDoor.Cel
open Go.RowKit
def roomV (x : Ce) : Int := if x.Right then x.a - x.b else 0
def newE (a b : Int) : Int := if (Ce.mk a b 0).Right then 0 else 100
def newV (a b : Int) : Ce := if (Ce.mk a b 0).Right then ⟨a, b, 0⟩ else nought
end Go.Proofs.YtmecohdedghiaaaGreatDoor.Cel
namespace Go.Proofs.YtmecohdedghiaaaGreatDoor
open Go.RowKit
theorem Lk.IsL.shape {P : Program} {α : Type} {K : Lk P α} {w : World} {B : Nat} {v : Value} {xs : List α} (h : K.IsL w B v xs) : ∃ A c, v = .slice A xs.length c ∧ xs.length ≤ c := by
 obtain ⟨⟨A, cap, rfl, hc, hA⟩, _, _⟩ := h
 exact ⟨A, cap, rfl, hc⟩
def tpCells (q : Int × Int) : List Value := [.int .i64 q.1, .int .i64 q.2]
/-- Lists of tips. -/
noncomputable def KT : Lk Tryz.prog (Int × Int) where
 S := 39
 E := 146
 n := 2
 zero := .agg #[.int .i64 0, .int .i64 0]
 bytes := 16
 cells := tpCells
 dflt := (0, 0)
 ok := fun q => fits q.1 ∧ fits q.2
 und := Tryz.underlying39
 info := by kernel_rfl
 zs := rfl
 pos := by decide
 small := by decide
 len _ := rfl
 one x u hu := by
  simp only [tpCells, List.mem_cons, List.not_mem_nil, or_false] at hu
  rcases hu with rfl | rfl <;> rfl
def ddCells (q : Bool × Int) : List Value := [.bool q.1, .int .i64 q.2]
/-- A change: version, arm, how much. -/
structure Ch where
 a : Int
 b : Int
 c : Int
def chCells (q : Ch) : List Value := [.int .i64 q.a, .int .i64 q.b, .int .i64 q.c]
def ch0 : Ch := ⟨0, 0, 0⟩
/-- Lists of changes. -/
noncomputable def KC : Lk Tryz.prog (Ch) where
 S := 54
 E := 177
 n := 3
 zero := .agg #[.int .i64 0, .int .i64 0, .int .i64 0]
 bytes := 24
 cells := chCells
 dflt := ch0
 ok := fun q => fits q.a ∧ fits q.b ∧ fits q.c
 und := Tryz.underlying54
 info := by kernel_rfl
 zs := rfl
 pos := by decide
 small := by decide
 len _ := rfl
 one x u hu := by
  simp only [chCells, List.mem_cons, List.not_mem_nil, or_false] at hu
  rcases hu with rfl | rfl | rfl <;> rfl
theorem ch_cells {w : World} {B : Nat} {A : Option Addr} {n c : Nat} {xs : List Ch} (h : KC.IsL w B (.slice A n c) xs) (h0 : 0 < xs.length) : ∃ b off, A = some ⟨b, off, none⟩ ∧ b < B ∧ xs.length ≤ c ∧
  ∀ i, i < xs.length → w.cell? ⟨b, off + i * 3, none⟩ = some (.int .i64 (xs.getD i ch0).a) ∧ w.cell? ⟨b, off + i * 3 + 1, none⟩ = some (.int .i64 (xs.getD i ch0).b) ∧ w.cell? ⟨b, off + i * 3 + 2, none⟩ = some (.int .i64 (xs.getD i ch0).c) := by
 obtain ⟨b, off, e, hb, hc, hcell⟩ := h.elem h0
 refine ⟨b, off, e, hb, hc, fun i hi => ?_⟩
 have q := fun j u hu => hcell i hi j u hu
 have hn : KC.n = 3 := rfl
 simp only [hn, ← Nat.add_assoc] at q
 exact ⟨q 0 _ rfl, q 1 _ rfl, q 2 _ rfl⟩
end Go.Proofs.YtmecohdedghiaaaGreatDoor
namespace Go.Proofs.YtmecohdedghiaaaGreatDoor
open Go.RowKit
theorem ad_ne {a b c d : Nat} (h : a ≠ c ∨ b ≠ d) : (⟨a, b, none⟩ : Addr) ≠ ⟨c, d, none⟩ := by
 intro e
 injection e with e1 e2
 rcases h with h | h
 ·exact h e1
 ·exact h e2
/-- 2 cells of an own block. -/
def Cells2 (V : World) (D : Nat) (x0 x1 : Value) : Prop :=
 V.cell? ⟨D, 0, none⟩ = some x0 ∧ V.cell? ⟨D, 1, none⟩ = some x1 ∧
 V.frozen? ⟨D, 0, none⟩ = false ∧ V.frozen? ⟨D, 1, none⟩ = false ∧ D < V.heap.size
abbrev setC2 (V : World) (D : Nat) (p0 p1 : Value) : World := (V.setCell ⟨D, 0, none⟩ p0).setCell ⟨D, 1, none⟩ p1
theorem Cells2.new (V : World) (t : TypeId) (x0 x1 : Value) : Cells2 (V.alloc (.cells #[x0, x1] t)) V.heap.size x0 x1 :=
 ⟨by rw [alloc_at]; rfl, by rw [alloc_at]; rfl, by simp, by simp, by simp⟩
theorem Cells2.below {V V' : World} {D : Nat} {x0 x1 : Value} (h : Cells2 V D x0 x1) (hb : Below V.heap.size V V') : Cells2 V' D x0 x1 := by
 obtain ⟨h0, h1, z0, z1, hs⟩ := h
 refine ⟨keep_cell hb h0, keep_cell hb h1, ?_, ?_, Nat.lt_of_lt_of_le hs hb.size⟩
 ·rw [hb.frozen (p := ⟨D, 0, none⟩) hs]; exact z0
 ·rw [hb.frozen (p := ⟨D, 1, none⟩) hs]; exact z1
theorem Cells2.set {V : World} {D : Nat} {x0 x1 : Value} (h : Cells2 V D x0 x1) (p0 p1 : Value) : Cells2 (setC2 V D p0 p1) D p0 p1 := by
 obtain ⟨h0, h1, z0, z1, hs⟩ := h
 refine ⟨st_other (st_same (h0)) (ad_ne (.inr (by decide))), st_same (st_other (h1) (ad_ne (.inr (by decide)))), st_fz (st_fz (z0)), st_fz (st_fz (z1)), ?_⟩
 simpa using hs
/-- 3 cells of an own block. -/
def Cells3 (V : World) (D : Nat) (x0 x1 x2 : Value) : Prop :=
 V.cell? ⟨D, 0, none⟩ = some x0 ∧ V.cell? ⟨D, 1, none⟩ = some x1 ∧ V.cell? ⟨D, 2, none⟩ = some x2 ∧
 V.frozen? ⟨D, 0, none⟩ = false ∧ V.frozen? ⟨D, 1, none⟩ = false ∧ V.frozen? ⟨D, 2, none⟩ = false ∧ D < V.heap.size
abbrev setC3 (V : World) (D : Nat) (p0 p1 p2 : Value) : World := ((V.setCell ⟨D, 0, none⟩ p0).setCell ⟨D, 1, none⟩ p1).setCell ⟨D, 2, none⟩ p2
theorem Cells3.new (V : World) (t : TypeId) (x0 x1 x2 : Value) : Cells3 (V.alloc (.cells #[x0, x1, x2] t)) V.heap.size x0 x1 x2 :=
 ⟨by rw [alloc_at]; rfl, by rw [alloc_at]; rfl, by rw [alloc_at]; rfl, by simp, by simp, by simp, by simp⟩
theorem Cells3.below {V V' : World} {D : Nat} {x0 x1 x2 : Value} (h : Cells3 V D x0 x1 x2) (hb : Below V.heap.size V V') : Cells3 V' D x0 x1 x2 := by
 obtain ⟨h0, h1, h2, z0, z1, z2, hs⟩ := h
 refine ⟨keep_cell hb h0, keep_cell hb h1, keep_cell hb h2, ?_, ?_, ?_, Nat.lt_of_lt_of_le hs hb.size⟩
 ·rw [hb.frozen (p := ⟨D, 0, none⟩) hs]; exact z0
 ·rw [hb.frozen (p := ⟨D, 1, none⟩) hs]; exact z1
 ·rw [hb.frozen (p := ⟨D, 2, none⟩) hs]; exact z2
theorem Cells3.set {V : World} {D : Nat} {x0 x1 x2 : Value} (h : Cells3 V D x0 x1 x2) (p0 p1 p2 : Value) : Cells3 (setC3 V D p0 p1 p2) D p0 p1 p2 := by
 obtain ⟨h0, h1, h2, z0, z1, z2, hs⟩ := h
 refine ⟨st_other (st_other (st_same (h0)) (ad_ne (.inr (by decide)))) (ad_ne (.inr (by decide))), st_other (st_same (st_other (h1) (ad_ne (.inr (by decide))))) (ad_ne (.inr (by decide))), st_same (st_other (st_other (h2) (ad_ne (.inr (by decide)))) (ad_ne (.inr (by decide)))), st_fz (st_fz (st_fz (z0))), st_fz (st_fz (st_fz (z1))), st_fz (st_fz (st_fz (z2))), ?_⟩
 simpa using hs
end Go.Proofs.YtmecohdedghiaaaGreatDoor
namespace Go.Proofs.YtmecohdedghiaaaGreatDoor
open Go.RowKit
/-- 6 cells of an own block. -/
def Cells6 (V : World) (D : Nat) (x0 x1 x2 x3 x4 x5 : Value) : Prop :=
 V.cell? ⟨D, 0, none⟩ = some x0 ∧ V.cell? ⟨D, 1, none⟩ = some x1 ∧ V.cell? ⟨D, 2, none⟩ = some x2 ∧ V.cell? ⟨D, 3, none⟩ = some x3 ∧ V.cell? ⟨D, 4, none⟩ = some x4 ∧ V.cell? ⟨D, 5, none⟩ = some x5 ∧
 V.frozen? ⟨D, 0, none⟩ = false ∧ V.frozen? ⟨D, 1, none⟩ = false ∧ V.frozen? ⟨D, 2, none⟩ = false ∧ V.frozen? ⟨D, 3, none⟩ = false ∧ V.frozen? ⟨D, 4, none⟩ = false ∧ V.frozen? ⟨D, 5, none⟩ = false ∧ D < V.heap.size
theorem Cells6.new (V : World) (t : TypeId) (x0 x1 x2 x3 x4 x5 : Value) : Cells6 (V.alloc (.cells #[x0, x1, x2, x3, x4, x5] t)) V.heap.size x0 x1 x2 x3 x4 x5 :=
 ⟨by rw [alloc_at]; rfl, by rw [alloc_at]; rfl, by rw [alloc_at]; rfl, by rw [alloc_at]; rfl, by rw [alloc_at]; rfl, by rw [alloc_at]; rfl, by simp, by simp, by simp, by simp, by simp, by simp, by simp⟩
theorem Cells6.below {V V' : World} {D : Nat} {x0 x1 x2 x3 x4 x5 : Value} (h : Cells6 V D x0 x1 x2 x3 x4 x5) (hb : Below V.heap.size V V') : Cells6 V' D x0 x1 x2 x3 x4 x5 := by
 obtain ⟨h0, h1, h2, h3, h4, h5, z0, z1, z2, z3, z4, z5, hs⟩ := h
 refine ⟨keep_cell hb h0, keep_cell hb h1, keep_cell hb h2, keep_cell hb h3, keep_cell hb h4, keep_cell hb h5, ?_, ?_, ?_, ?_, ?_, ?_, Nat.lt_of_lt_of_le hs hb.size⟩
 ·rw [hb.frozen (p := ⟨D, 0, none⟩) hs]; exact z0
 ·rw [hb.frozen (p := ⟨D, 1, none⟩) hs]; exact z1
 ·rw [hb.frozen (p := ⟨D, 2, none⟩) hs]; exact z2
 ·rw [hb.frozen (p := ⟨D, 3, none⟩) hs]; exact z3
 ·rw [hb.frozen (p := ⟨D, 4, none⟩) hs]; exact z4
 ·rw [hb.frozen (p := ⟨D, 5, none⟩) hs]; exact z5
theorem Cells6.set {V : World} {D : Nat} {x0 x1 x2 x3 x4 x5 : Value} (h : Cells6 V D x0 x1 x2 x3 x4 x5) (p0 p1 p2 p3 p4 p5 : Value) : Cells6 ((((((V.setCell ⟨D, 0, none⟩ p0).setCell ⟨D, 1, none⟩ p1).setCell ⟨D, 2, none⟩ p2).setCell ⟨D, 3, none⟩ p3).setCell ⟨D, 4, none⟩ p4).setCell ⟨D, 5, none⟩ p5) D p0 p1 p2 p3 p4 p5 := by
 obtain ⟨h0, h1, h2, h3, h4, h5, z0, z1, z2, z3, z4, z5, hs⟩ := h
 refine ⟨st_other (st_other (st_other (st_other (st_other (st_same (h0)) (ad_ne (.inr (by decide)))) (ad_ne (.inr (by decide)))) (ad_ne (.inr (by decide)))) (ad_ne (.inr (by decide)))) (ad_ne (.inr (by decide))), st_other (st_other (st_other (st_other (st_same (st_other (h1) (ad_ne (.inr (by decide))))) (ad_ne (.inr (by decide)))) (ad_ne (.inr (by decide)))) (ad_ne (.inr (by decide)))) (ad_ne (.inr (by decide))), st_other (st_other (st_other (st_same (st_other (st_other (h2) (ad_ne (.inr (by decide)))) (ad_ne (.inr (by decide))))) (ad_ne (.inr (by decide)))) (ad_ne (.inr (by decide)))) (ad_ne (.inr (by decide))), st_other (st_other (st_same (st_other (st_other (st_other (h3) (ad_ne (.inr (by decide)))) (ad_ne (.inr (by decide)))) (ad_ne (.inr (by decide))))) (ad_ne (.inr (by decide)))) (ad_ne (.inr (by decide))), st_other (st_same (st_other (st_other (st_other (st_other (h4) (ad_ne (.inr (by decide)))) (ad_ne (.inr (by decide)))) (ad_ne (.inr (by decide)))) (ad_ne (.inr (by decide))))) (ad_ne (.inr (by decide))), st_same (st_other (st_other (st_other (st_other (st_other (h5) (ad_ne (.inr (by decide)))) (ad_ne (.inr (by decide)))) (ad_ne (.inr (by decide)))) (ad_ne (.inr (by decide)))) (ad_ne (.inr (by decide)))), st_fz (st_fz (st_fz (st_fz (st_fz (st_fz (z0)))))), st_fz (st_fz (st_fz (st_fz (st_fz (st_fz (z1)))))), st_fz (st_fz (st_fz (st_fz (st_fz (st_fz (z2)))))), st_fz (st_fz (st_fz (st_fz (st_fz (st_fz (z3)))))), st_fz (st_fz (st_fz (st_fz (st_fz (st_fz (z4)))))), st_fz (st_fz (st_fz (st_fz (st_fz (st_fz (z5)))))), ?_⟩
 simpa using hs
theorem Cells6.s {V : World} {D : Nat} {x0 x1 x2 x3 x4 x5 : Value} (h : Cells6 V D x0 x1 x2 x3 x4 x5) (p : Value) : Cells6 (V.setCell ⟨D, 0, none⟩ p) D p x1 x2 x3 x4 x5 ∧ Cells6 (V.setCell ⟨D, 1, none⟩ p) D x0 p x2 x3 x4 x5 ∧ Cells6 (V.setCell ⟨D, 2, none⟩ p) D x0 x1 p x3 x4 x5 ∧
  Cells6 (V.setCell ⟨D, 3, none⟩ p) D x0 x1 x2 p x4 x5 ∧ Cells6 (V.setCell ⟨D, 4, none⟩ p) D x0 x1 x2 x3 p x5 ∧ Cells6 (V.setCell ⟨D, 5, none⟩ p) D x0 x1 x2 x3 x4 p := by
 obtain ⟨h0, h1, h2, h3, h4, h5, z0, z1, z2, z3, z4, z5, hs⟩ := h
 have ne : ∀ {i j : Nat}, i ≠ j → (⟨D, i, none⟩ : Addr) ≠ ⟨D, j, none⟩ := fun h => ad_ne (.inr h)
 exact ⟨⟨st_same h0, st_other h1 (ne (by decide)), st_other h2 (ne (by decide)), st_other h3 (ne (by decide)), st_other h4 (ne (by decide)), st_other h5 (ne (by decide)), st_fz z0, st_fz z1, st_fz z2, st_fz z3, st_fz z4, st_fz z5, by simpa using hs⟩,
  ⟨st_other h0 (ne (by decide)), st_same h1, st_other h2 (ne (by decide)), st_other h3 (ne (by decide)), st_other h4 (ne (by decide)), st_other h5 (ne (by decide)), st_fz z0, st_fz z1, st_fz z2, st_fz z3, st_fz z4, st_fz z5, by simpa using hs⟩,
  ⟨st_other h0 (ne (by decide)), st_other h1 (ne (by decide)), st_same h2, st_other h3 (ne (by decide)), st_other h4 (ne (by decide)), st_other h5 (ne (by decide)), st_fz z0, st_fz z1, st_fz z2, st_fz z3, st_fz z4, st_fz z5, by simpa using hs⟩,
  ⟨st_other h0 (ne (by decide)), st_other h1 (ne (by decide)), st_other h2 (ne (by decide)), st_same h3, st_other h4 (ne (by decide)), st_other h5 (ne (by decide)), st_fz z0, st_fz z1, st_fz z2, st_fz z3, st_fz z4, st_fz z5, by simpa using hs⟩,
  ⟨st_other h0 (ne (by decide)), st_other h1 (ne (by decide)), st_other h2 (ne (by decide)), st_other h3 (ne (by decide)), st_same h4, st_other h5 (ne (by decide)), st_fz z0, st_fz z1, st_fz z2, st_fz z3, st_fz z4, st_fz z5, by simpa using hs⟩,
  ⟨st_other h0 (ne (by decide)), st_other h1 (ne (by decide)), st_other h2 (ne (by decide)), st_other h3 (ne (by decide)), st_other h4 (ne (by decide)), st_same h5, st_fz z0, st_fz z1, st_fz z2, st_fz z3, st_fz z4, st_fz z5, by simpa using hs⟩⟩
end Go.Proofs.YtmecohdedghiaaaGreatDoor
namespace Go.Proofs.YtmecohdedghiaaaGreatDoor.Cel
open Go.RowKit
/-- What is to come of a loop that stands at a round's start. -/
def wpIn (P : Program) (c : Code) (Q : Exit → Act → World → Prop) (a : Act) (w : World) : Prop :=
 ∀ (b : Frame) (k : List Item) (cs : List Frame), ∃ e a' w', Q e a' w' ∧ Arrives P (lone (b.at a (.code c :: .inLoop c :: k)) cs w) b k cs e a' w'
theorem ad_ne {b b' o o' : Nat} (h : b ≠ b' ∨ o ≠ o') : (⟨b, o, none⟩ : Addr) ≠ ⟨b', o', none⟩ := by
 intro e
 cases e
 rcases h with h | h <;> exact h rfl
def mvE (x y : Ce) (n : Int) : Int := if chE x (-(max n 0)) = 0 then chE y (max n 0) else chE x (-(max n 0))
def mvX (x y : Ce) (n : Int) : Ce := if mvE x y n = 0 then chV x (-(max n 0)) else nought
def mvY (x y : Ce) (n : Int) : Ce := if mvE x y n = 0 then chV y (max n 0) else nought
/-- Two cells and an error. -/
abbrev ceEE (x y : Ce) (e : Int) : Value := .tuple #[.agg #[.int .i64 x.a, .int .i64 x.b, .int .i64 x.c], .agg #[.int .i64 y.a, .int .i64 y.b, .int .i64 y.c], .int .i64 e]
end Go.Proofs.YtmecohdedghiaaaGreatDoor.Cel
namespace Go.Proofs.YtmecohdedghiaaaGreatDoor.Tp
open Go.RowKit
/-- A tip. -/
abbrev tpV (s b : Int) : Value := .agg #[.int .i64 s, .int .i64 b]
def armB (b : Int) : Bool := decide (1 ≤ b ∧ b ≤ 8)
/-- The state of a tip, 0 where it is not right. -/
def ofV (s b : Int) : Int := if (s = 1 ∨ s = 3) ∧ b = 0 then s else if s = 2 ∧ 1 ≤ b ∧ b ≤ 8 then 2 else 0
theorem Below.box {w w' : World} (o : Obj) (h : Below (w.alloc o).heap.size (w.alloc o) w') : Below w.heap.size w w' := Below.call (Below.al (Below.refl _ _) o) h
theorem isArm_any (b : Int) (w : World) : Calls Tryz.prog 261 #[.int .i64 b] w fun e w' => e = .returned (.bool (armB b)) ∧ w = w' := by
 unfold armB
 by_cases h1 : 1 ≤ b
 ·go_enter Tryz.func261, Tryz.ntmps261
  go_wp2
  go_ret
  exact ⟨ret_b (by simp [h1]), rfl⟩
 ·go_enter Tryz.func261, Tryz.ntmps261
  go_wp2
  go_ret
  exact ⟨ret_b (by simp; omega), rfl⟩
theorem of_any (s b : Int) (w : World) : Calls Tryz.prog 251 #[tpV s b] w fun e w' => e = .returned (.int .i64 (ofV s b)) ∧ Below w.heap.size w w' := by
 have HA := Lib.hid (fun w => isArm_any b w)
 by_cases h1 : s = 1
 ·subst h1
  by_cases h0 : b = 0
  ·subst h0
   go_enter Tryz.func251, Tryz.ntmps251
   go_wp2
   go_ret
   exact ⟨ret_i rfl, Below.al (Below.refl _ _) _⟩
  ·rw [show ofV 1 b = 0 by unfold ofV; rw [if_neg (by omega), if_neg (by omega)]]
   go_enter Tryz.func251, Tryz.ntmps251
   go_wp2
   go_ret
   exact ⟨ret_i rfl, Below.al (Below.refl _ _) _⟩
 ·by_cases h3 : s = 3
  ·subst h3
   by_cases h0 : b = 0
   ·subst h0
    go_enter Tryz.func251, Tryz.ntmps251
    go_wp2
    go_ret
    exact ⟨ret_i rfl, Below.al (Below.refl _ _) _⟩
   ·rw [show ofV 3 b = 0 by unfold ofV; rw [if_neg (by omega), if_neg (by omega)]]
    go_enter Tryz.func251, Tryz.ntmps251
    go_wp2
    go_ret
    exact ⟨ret_i rfl, Below.al (Below.refl _ _) _⟩
  ·by_cases h2 : s = 2
   ·subst h2
    by_cases ha : 1 ≤ b ∧ b ≤ 8
    ·rw [show ofV 2 b = 2 by unfold ofV; rw [if_neg (by omega), if_pos ⟨rfl, ha⟩]]
     rw [show armB b = true from decide_eq_true ha] at HA
     clear ha h1 h3
     go_enter Tryz.func251, Tryz.ntmps251
     go_wp2_with fail
     refine (HA.out _).mono ?_
     rintro e w1 ⟨rfl, rfl⟩
     go_wp2
     go_ret
     exact ⟨ret_i rfl, Below.al (Below.refl _ _) _⟩
    ·rw [show ofV 2 b = 0 by unfold ofV; rw [if_neg (by omega), if_neg (by omega)]]
     rw [show armB b = false from decide_eq_false ha] at HA
     clear ha h1 h3
     go_enter Tryz.func251, Tryz.ntmps251
     go_wp2_with fail
     refine (HA.out _).mono ?_
     rintro e w1 ⟨rfl, rfl⟩
     go_wp2
     go_ret
     exact ⟨ret_i rfl, Below.al (Below.refl _ _) _⟩
   ·rw [show ofV s b = 0 by unfold ofV; rw [if_neg (by omega), if_neg (by omega)]]
    go_enter Tryz.func251, Tryz.ntmps251
    go_wp2
    go_ret
    exact ⟨ret_i rfl, Below.al (Below.refl _ _) _⟩
theorem is_any (k s b : Int) (w : World) : Calls Tryz.prog 224 #[.int .i64 k, tpV s b] w fun e w' => e = .returned (.bool (ofV s b == k)) ∧ Below w.heap.size w w' := by
 have HA := Lib.hid (fun w => of_any s b w)
 generalize ofV s b = c at *
 go_enter Tryz.func224, Tryz.ntmps224
 go_wp2_with fail
 refine (HA.out _).mono ?_
 rintro e w1 ⟨rfl, hb1⟩
 have HB1 := Lib.hid hb1
 clear hb1
 go_wp2
 go_ret
 exact ⟨ret_b (by simp), Below.box _ HB1.out⟩
theorem right_any (s b : Int) (w : World) : Calls Tryz.prog 165 #[tpV s b] w fun e w' => e = .returned (.bool (!(ofV s b == 0))) ∧ Below w.heap.size w w' := by
 have HA := Lib.hid (fun w => is_any 0 s b w)
 generalize (ofV s b == 0) = c at *
 go_enter Tryz.func165, Tryz.ntmps165
 go_wp2_with fail
 refine (HA.out _).mono ?_
 rintro e w1 ⟨rfl, hb1⟩
 have HB1 := Lib.hid hb1
 clear hb1
 go_wp2
 go_ret
 exact ⟨ret_b (by simp), Below.box _ HB1.out⟩
end Go.Proofs.YtmecohdedghiaaaGreatDoor.Tp
namespace Go.Proofs.YtmecohdedghiaaaGreatDoor.Tp
open Go.RowKit
def tkE (s b a : Int) : Int := if ofV s b = 0 then 120 else if armB a = false then 1 else if ofV s b = 1 then 0 else 121
def tkV (s b a : Int) : Int × Int := if tkE s b a = 0 then (2, a) else (0, 0)
def dpE (s b a : Int) : Int := if ofV s b = 0 then 120 else if armB a = false then 1 else if ofV s b = 2 ∧ b = a then 0 else 122
def dpV (s b a : Int) : Int × Int := if dpE s b a = 0 then (3, 0) else (0, 0)
abbrev tpE (x : Int × Int) (e : Int) : Value := .tuple #[.agg #[.int .i64 x.1, .int .i64 x.2], .int .i64 e]
end Go.Proofs.YtmecohdedghiaaaGreatDoor.Tp
namespace Go.Proofs.YtmecohdedghiaaaGreatDoor.Tp
open Go.RowKit
/-- The first place below n that is told, and whether there is one. -/
def fstV (p : Nat → Bool) (n : Nat) : Int × Bool := match (List.range n).find? p with | some i => ((i : Int), true) | none => (0, false)
abbrev fsV (x : Int × Bool) : Value := .tuple #[.int .i64 x.1, .bool x.2]
def frP (xs : List (Int × Int)) (f : Int) (i : Nat) : Bool := decide (f ≤ (i : Int)) && (ofV (xs.getD i (0, 0)).1 (xs.getD i (0, 0)).2 == 1)
def hdP (xs : List (Int × Int)) (a f : Int) (i : Nat) : Bool := decide (f ≤ (i : Int)) && (ofV (xs.getD i (0, 0)).1 (xs.getD i (0, 0)).2 == 2 && (xs.getD i (0, 0)).2 == a)
end Go.Proofs.YtmecohdedghiaaaGreatDoor.Tp
namespace Go.Proofs.YtmecohdedghiaaaGreatDoor
open Go.RowKit
def ceCells (q : Cel.Ce) : List Value := [.int .i64 q.a, .int .i64 q.b, .int .i64 q.c]
def ce0 : Cel.Ce := ⟨0, 0, 0⟩
/-- Lists of cells. -/
noncomputable def KE : Lk Tryz.prog Cel.Ce where
 S := 37
 E := 70
 n := 3
 zero := .agg #[.int .i64 0, .int .i64 0, .int .i64 0]
 bytes := 24
 cells := ceCells
 dflt := ce0
 ok := fun q => q.Fit
 und := Tryz.underlying37
 info := by kernel_rfl
 zs := rfl
 pos := by decide
 small := by decide
 len _ := rfl
 one x u hu := by
  simp only [ceCells, List.mem_cons, List.not_mem_nil, or_false] at hu
  rcases hu with rfl | rfl | rfl <;> rfl
/-- A log: its room, its last version, where its changes lie, and which they are. -/
structure Lo where
 r : Int
 l : Int
 A : Option Addr
 c : Nat
 xs : List Ch
def loCells (q : Lo) : List Value := [.int .i64 q.r, .int .i64 q.l, .slice q.A q.xs.length q.c]
def lo0 : Lo := ⟨0, 0, none, 0, []⟩
/-- Lists of logs. -/
noncomputable def KL : Lk Tryz.prog Lo where
 S := 38
 E := 115
 n := 3
 zero := .agg #[.int .i64 0, .int .i64 0, .slice none 0 0]
 bytes := 40
 cells := loCells
 dflt := lo0
 ok := fun q => fits q.r ∧ fits q.l
 und := Tryz.underlying38
 info := by kernel_rfl
 zs := rfl
 pos := by decide
 small := by decide
 len _ := rfl
 one x u hu := by
  simp only [loCells, List.mem_cons, List.not_mem_nil, or_false] at hu
  rcases hu with rfl | rfl | rfl <;> rfl
/-- A stock: where its lists lie, and what they are. -/
structure Stk where
 cA : Option Addr
 cc : Nat
 cl : List Cel.Ce
 lA : Option Addr
 lc : Nat
 ll : List Lo
 tA : Option Addr
 tc : Nat
 tl : List (Int × Int)
 st : Int
 inn : Int
 out : Int
abbrev Stk.v (s : Stk) : Value := .agg #[.slice s.cA s.cl.length s.cc, .slice s.lA s.ll.length s.lc, .slice s.tA s.tl.length s.tc, .int .i64 s.st, .int .i64 s.inn, .int .i64 s.out]
/-- A stock that lies in memory below a block. -/
structure Stk.In (w : World) (B : Nat) (s : Stk) : Prop where
 c : KE.IsL w B (.slice s.cA s.cl.length s.cc) s.cl
 l : KL.IsL w B (.slice s.lA s.ll.length s.lc) s.ll
 t : KT.IsL w B (.slice s.tA s.tl.length s.tc) s.tl
 x : ∀ q ∈ s.ll, KC.IsL w B (.slice q.A q.xs.length q.c) q.xs
 f : fits s.st ∧ fits s.inn ∧ fits s.out
theorem Stk.In.below {w w' : World} {B : Nat} {s : Stk} (h : s.In w B) (hb : Below B w w') : s.In w' B := ⟨h.c.below hb, h.l.below hb, h.t.below hb, fun q hq => (h.x q hq).below hb, h.f⟩
theorem Stk.In.more {w : World} {B B' : Nat} {s : Stk} (h : s.In w B) (hB : B ≤ B') : s.In w B' := ⟨h.c.more hB, h.l.more hB, h.t.more hB, fun q hq => (h.x q hq).more hB, h.f⟩
theorem Stk.In.then {w w' : World} {s : Stk} (h : s.In w w.heap.size) (hb : Below w.heap.size w w') : s.In w' w'.heap.size := (h.below hb).more hb.size
/-- What a stock is, wherever it lies. -/
structure Ab where
 c : List Cel.Ce
 l : List (Int × Int × List Ch)
 t : List (Int × Int)
 st : Int
 inn : Int
 out : Int
def Lo.ab (q : Lo) : Int × Int × List Ch := (q.r, q.l, q.xs)
def Stk.ab (s : Stk) : Ab := ⟨s.cl, s.ll.map Lo.ab, s.tl, s.st, s.inn, s.out⟩
def ab0 : Ab := ⟨[], [], [], 0, 0, 0⟩
def stk0 : Stk := ⟨none, 0, [], none, 0, [], none, 0, [], 0, 0, 0⟩
/-- 4 cells of an own block. -/
def Cells4 (V : World) (D : Nat) (x0 x1 x2 x3 : Value) : Prop :=
 V.cell? ⟨D, 0, none⟩ = some x0 ∧ V.cell? ⟨D, 1, none⟩ = some x1 ∧ V.cell? ⟨D, 2, none⟩ = some x2 ∧ V.cell? ⟨D, 3, none⟩ = some x3 ∧
 V.frozen? ⟨D, 0, none⟩ = false ∧ V.frozen? ⟨D, 1, none⟩ = false ∧ V.frozen? ⟨D, 2, none⟩ = false ∧ V.frozen? ⟨D, 3, none⟩ = false ∧ D < V.heap.size
theorem Cells4.new (V : World) (t : TypeId) (x0 x1 x2 x3 : Value) : Cells4 (V.alloc (.cells #[x0, x1, x2, x3] t)) V.heap.size x0 x1 x2 x3 :=
 ⟨by rw [alloc_at]; rfl, by rw [alloc_at]; rfl, by rw [alloc_at]; rfl, by rw [alloc_at]; rfl, by simp, by simp, by simp, by simp, by simp⟩
theorem Cells4.below {V V' : World} {D : Nat} {x0 x1 x2 x3 : Value} (h : Cells4 V D x0 x1 x2 x3) (hb : Below V.heap.size V V') : Cells4 V' D x0 x1 x2 x3 := by
 obtain ⟨h0, h1, h2, h3, z0, z1, z2, z3, hs⟩ := h
 refine ⟨keep_cell hb h0, keep_cell hb h1, keep_cell hb h2, keep_cell hb h3, ?_, ?_, ?_, ?_, Nat.lt_of_lt_of_le hs hb.size⟩
 ·rw [hb.frozen (p := ⟨D, 0, none⟩) hs]; exact z0
 ·rw [hb.frozen (p := ⟨D, 1, none⟩) hs]; exact z1
 ·rw [hb.frozen (p := ⟨D, 2, none⟩) hs]; exact z2
 ·rw [hb.frozen (p := ⟨D, 3, none⟩) hs]; exact z3
theorem Cells4.set {V : World} {D : Nat} {x0 x1 x2 x3 : Value} (h : Cells4 V D x0 x1 x2 x3) (p0 p1 p2 p3 : Value) : Cells4 ((((V.setCell ⟨D, 0, none⟩ p0).setCell ⟨D, 1, none⟩ p1).setCell ⟨D, 2, none⟩ p2).setCell ⟨D, 3, none⟩ p3) D p0 p1 p2 p3 := by
 obtain ⟨h0, h1, h2, h3, z0, z1, z2, z3, hs⟩ := h
 refine ⟨st_other (st_other (st_other (st_same (h0)) (ad_ne (.inr (by decide)))) (ad_ne (.inr (by decide)))) (ad_ne (.inr (by decide))), st_other (st_other (st_same (st_other (h1) (ad_ne (.inr (by decide))))) (ad_ne (.inr (by decide)))) (ad_ne (.inr (by decide))), st_other (st_same (st_other (st_other (h2) (ad_ne (.inr (by decide)))) (ad_ne (.inr (by decide))))) (ad_ne (.inr (by decide))), st_same (st_other (st_other (st_other (h3) (ad_ne (.inr (by decide)))) (ad_ne (.inr (by decide)))) (ad_ne (.inr (by decide)))), st_fz (st_fz (st_fz (st_fz (z0)))), st_fz (st_fz (st_fz (st_fz (z1)))), st_fz (st_fz (st_fz (st_fz (z2)))), st_fz (st_fz (st_fz (st_fz (z3)))), ?_⟩
 simpa using hs
theorem Cells6.off {V : World} {D G o : Nat} {x0 x1 x2 x3 x4 x5 : Value} (h : Cells6 V G x0 x1 x2 x3 x4 x5) (hne : D ≠ G) (p : Value) : Cells6 (V.setCell ⟨D, o, none⟩ p) G x0 x1 x2 x3 x4 x5 := by
 obtain ⟨h0, h1, h2, h3, h4, h5, z0, z1, z2, z3, z4, z5, hs⟩ := h
 exact ⟨st_other h0 (ad_ne (.inl hne)), st_other h1 (ad_ne (.inl hne)), st_other h2 (ad_ne (.inl hne)), st_other h3 (ad_ne (.inl hne)), st_other h4 (ad_ne (.inl hne)), st_other h5 (ad_ne (.inl hne)), st_fz z0, st_fz z1, st_fz z2, st_fz z3, st_fz z4, st_fz z5, by simpa using hs⟩
theorem Cells4.off {V : World} {D G o : Nat} {x0 x1 x2 x3 : Value} (h : Cells4 V G x0 x1 x2 x3) (hne : D ≠ G) (p : Value) : Cells4 (V.setCell ⟨D, o, none⟩ p) G x0 x1 x2 x3 := by
 obtain ⟨h0, h1, h2, h3, z0, z1, z2, z3, hs⟩ := h
 exact ⟨st_other h0 (ad_ne (.inl hne)), st_other h1 (ad_ne (.inl hne)), st_other h2 (ad_ne (.inl hne)), st_other h3 (ad_ne (.inl hne)), st_fz z0, st_fz z1, st_fz z2, st_fz z3, by simpa using hs⟩
/-- What is in a block of one's own, and the deck's and the stock's boxes. -/
theorem Cells4.box (w : World) (d : Dk) (t : TypeId) : Cells4 (w.alloc (.cells #[.slice d.bA d.bn d.bc, .slice d.pA d.pn d.pc, .slice d.rA d.rn d.rc, .int .i64 d.arms] t)) w.heap.size (.slice d.bA d.bn d.bc) (.slice d.pA d.pn d.pc) (.slice d.rA d.rn d.rc) (.int .i64 d.arms) := Cells4.new w t _ _ _ _
abbrev DkAt (V : World) (D : Nat) (d : Dk) : Prop := Cells4 V D (.slice d.bA d.bn d.bc) (.slice d.pA d.pn d.pc) (.slice d.rA d.rn d.rc) (.int .i64 d.arms)
abbrev SkAt (V : World) (D : Nat) (s : Stk) : Prop := Cells6 V D (.slice s.cA s.cl.length s.cc) (.slice s.lA s.ll.length s.lc) (.slice s.tA s.tl.length s.tc) (.int .i64 s.st) (.int .i64 s.inn) (.int .i64 s.out)
end Go.Proofs.YtmecohdedghiaaaGreatDoor
namespace Go.Proofs.YtmecohdedghiaaaGreatDoor.Two
open Go.RowKit
end Go.Proofs.YtmecohdedghiaaaGreatDoor.Two
namespace Go.Proofs.YtmecohdedghiaaaGreatDoor.Two
open Go.RowKit
def sumL (l : List Int) : Int := l.foldl (· + ·) 0
/-- The two words as cells. -/
def w2c (x : Int) : Array Value := #[.int .u64 (x % 18446744073709551616), .int .u64 (x / 18446744073709551616 % 18446744073709551616)]
end Go.Proofs.YtmecohdedghiaaaGreatDoor.Two
namespace Go.Proofs.YtmecohdedghiaaaGreatDoor.Two
open Go.RowKit
/-- How long a slice value is. -/
def lenV : Value → Nat | .slice _ n _ => n | _ => 0
theorem IsL.lenV {w : World} {B : Nat} {v : Value} {xs : List Int} (h : IsL w B v xs) : lenV v = xs.length := by
  obtain ⟨⟨A, cap, rfl, _⟩, _⟩ := h
  rfl
/-- Two slices of the call's own do not share a block. -/
def Off2 (u v : Value) : Prop := ∀ k, u.ownBlock = some k → v.ownBlock ≠ some k
theorem Off2.symm {u v : Value} (h : Off2 u v) : Off2 v u := fun k h1 h2 => h k h2 h1
theorem Off2.grown {u v u' : Value} {w : World} {base : Nat} {ys : List Int} (h : Off2 u v) (hv : Own w base v ys) (hu : u'.ownBlock = u.ownBlock ∨ u'.ownBlock = some w.heap.size) : Off2 u' v := by
  intro k hk hk2
  rcases hu with hu | hu
  · exact h k (hu ▸ hk) hk2
  · rw [hu] at hk
    injection hk with hk
    have := (hv.lt k hk2).2
    omega
/-- A list parted by the signs. -/
structure Parts (l ups downs : List Int) : Prop where
  sum : sumL ups + sumL downs = sumL l
  len : ups.length + downs.length = l.length
  up : ∀ x ∈ ups, 0 ≤ x
  down : ∀ x ∈ downs, x < 0
theorem Parts.nil : Parts [] [] [] := ⟨rfl, rfl, fun x hx => by simp at hx, fun x hx => by simp at hx⟩
/-- What is still to be added. -/
structure Rest (S s : Int) (ups downs : List Int) : Prop where
  sum : s + (sumL ups + sumL downs) = S
  fit : fits s
  up : ∀ x ∈ ups, 0 ≤ x
  down : ∀ x ∈ downs, x < 0
  fup : ∀ x ∈ ups, fits x
  fdown : ∀ x ∈ downs, fits x
theorem Rest.done {S s : Int} (h : Rest S s [] []) : S = s ∧ fits s := by
  have := h.sum
  rw [show sumL [] = 0 from rfl] at this
  exact ⟨by omega, h.fit⟩
end Go.Proofs.YtmecohdedghiaaaGreatDoor.Two
namespace Go.Proofs.YtmecohdedghiaaaGreatDoor
open Go.RowKit
/-- What an own slice is, as it stands. -/
theorem Lk.Own.shape {P : Program} {α : Type} {K : Lk P α} {w : World} {base : Nat} {v : Value} {xs : List α} (h : K.Own w base v xs) (h0 : 0 < xs.length) : ∃ g cap, v = .slice (some ⟨g, 0, none⟩) xs.length cap ∧ base ≤ g ∧ g < w.heap.size ∧ xs.length ≤ cap := by
 obtain ⟨⟨h1, h2⟩, hf⟩ := h
 rcases h2 with ⟨_, hn⟩ | ⟨g, cap, cur, rfl, hb2, hg, hn, _⟩
 ·omega
 ·exact ⟨g, cap, rfl, hb2, (Array.getElem?_eq_some_iff.1 hg).1, hn⟩
theorem KI.flat_at (xs : List Int) : KI.flat xs = xs.map fun x => Value.int .i64 x := by
 induction xs with
 | nil => rfl
 | cons x r ih => show Value.int .i64 x :: KI.flat r = _; rw [ih]; rfl
/-- A number of an own list is written. -/
theorem KI.Own.put {w : World} {B g n c : Nat} {ys : List Int} (h : KI.Own w B (.slice (some ⟨g, 0, none⟩) n c) ys) (hn : ys.length = n) (k : Nat) (x : Int) (hx : fits x) :
  KI.Own (w.setCell ⟨g, k, none⟩ (.int .i64 x)) B (.slice (some ⟨g, 0, none⟩) n c) (ys.set k x) ∧ w.grownBy (w.setCell ⟨g, k, none⟩ (.int .i64 x)) (some g) := by
 obtain ⟨h1, h2⟩ := h
 have q := World.ownsRow.stored (n := n) (by rw [hn] at h1; exact h1) k (.int .i64 x)
 refine ⟨⟨?_, fun q hq => ?_⟩, q.2⟩
 ·rw [KI.flat_at] at q ⊢
  rw [List.length_set, hn, List.map_set]
  exact q.1
 ·rcases List.mem_or_eq_of_mem_set hq with hq | rfl
  ·exact h2 q hq
  ·exact hx
theorem KI.Own.at {w : World} {B g n c : Nat} {ys : List Int} (h : KI.Own w B (.slice (some ⟨g, 0, none⟩) n c) ys) (hn : ys.length = n) (k : Nat) (hk : k < n) : w.cell? ⟨g, k, none⟩ = some (.int .i64 (ys.getD k 0)) ∧ w.frozen? ⟨g, k, none⟩ = false := by
 obtain ⟨h1, h2⟩ := h
 rw [hn] at h1
 refine ⟨?_, h1.frozenAt k⟩
 have := h1.cellAt k (by show k < n * 1; omega)
 rw [this, KI.flat_at, List.getElem?_map, List.getD_eq_getElem?_getD, List.getElem?_eq_getElem (by omega)]
 rfl
/-- What an own slice's elements are in memory. -/
theorem Lk.Own.cellAt {P : Program} {α : Type} {K : Lk P α} {w : World} {B g n c : Nat} {ys : List α} (h : K.Own w B (.slice (some ⟨g, 0, none⟩) n c) ys) (hn : ys.length = n) (k j : Nat) (hk : k < n) (u : Value) (hu : (K.cells (ys.getD k K.dflt))[j]? = some u) : w.cell? ⟨g, k * K.n + j, none⟩ = some u ∧ w.frozen? ⟨g, k * K.n + j, none⟩ = false := by
 obtain ⟨h1, h2⟩ := h
 rw [hn] at h1
 have hj : j < K.n := by
  have := (List.getElem?_eq_some_iff.1 hu).1
  rw [K.len] at this
  exact this
 refine ⟨?_, h1.frozenAt _⟩
 have hm : k * K.n + j < n * K.n := by
  have : (k + 1) * K.n ≤ n * K.n := Nat.mul_le_mul_right _ hk
  rw [Nat.succ_mul] at this
  omega
 rw [h1.cellAt _ hm, K.flat_at ys k j (by omega) hj, hu]
end Go.Proofs.YtmecohdedghiaaaGreatDoor
namespace Go.Proofs.YtmecohdedghiaaaGreatDoor
open Go.RowKit
def volS (l : List Cel.Ce) : List Int := l.map fun q => q.b
/-- What the first k volumes and noughts behind them are. -/
def volF (l : List Cel.Ce) (k : Nat) : List Int := volS (l.take k) ++ List.replicate (l.length - k) 0
abbrev totV (l : List Cel.Ce) : Value := .tuple #[.int .i64 (fitV (Two.sumL (volS l))), .int .i64 (fitE (Two.sumL (volS l)))]
end Go.Proofs.YtmecohdedghiaaaGreatDoor
