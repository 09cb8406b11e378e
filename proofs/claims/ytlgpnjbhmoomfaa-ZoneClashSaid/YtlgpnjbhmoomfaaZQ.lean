/- Whether two parts clash, and the way between them: what the program and the reference answer. -/
import Derived.Test.YtlgpnjbhmoomfaaZP
namespace Go.Proofs.Ytlgpnjbhmoomfaa
open Go.RowKit

noncomputable def clV (d : Dk) (a b : Int) : Bool := if spsE d [a, b] = 0 then decide ((spA d a).1 ≤ (spA d b).2 ∧ (spA d b).1 ≤ (spA d a).2) else false
noncomputable def pathV (d : Dk) (a b : Int) : List Int := if spsE d [a, b] = 0 then lanesI (frst d) (min (spA d a).1 (spA d b).1).toNat ((max (spA d a).2 (spA d b).2).toNat + 1 - (min (spA d a).1 (spA d b).1).toNat) else []
theorem sps2 (d : Dk) (a b : Int) (h : spsE d [a, b] = 0) : spsL d [a, b] = [spA d a, spA d b] := by unfold spsL; rw [if_pos h]; rfl
theorem two_cells {w : World} {B : Nat} {v : Value} {p q : Int × Int} (h : KS.IsL w B v [p, q]) : ∃ b off cap, v = .slice (some ⟨b, off, none⟩) 2 cap ∧ b < B ∧ 2 ≤ cap ∧ w.cell? ⟨b, off, none⟩ = some (.int .i64 p.1) ∧ w.cell? ⟨b, off + 1, none⟩ = some (.int .i64 p.2) ∧ w.cell? ⟨b, off + 2, none⟩ = some (.int .i64 q.1) ∧ w.cell? ⟨b, off + 3, none⟩ = some (.int .i64 q.2) := by
  obtain ⟨⟨A, cap, rfl, hc, hA⟩, _, _⟩ := id h
  obtain ⟨b, off, rfl, hb, _, hcell⟩ := span_cells h (by simp)
  have h0 := hcell 0 (by simp)
  have h1 := hcell 1 (by simp)
  simp only [Nat.zero_mul, Nat.add_zero, Nat.one_mul] at h0 h1
  exact ⟨b, off, cap, rfl, hb, hc, h0.1, h0.2, h1.1, h1.2⟩
theorem lit2 (w : World) (a b : Int) (ha : fits a) (hb : fits b) (H : Nat) (e : w.heap.size = H) : KI.IsL (w.alloc (.cells #[.int .i64 a, .int .i64 b] 3)) (H + 1) (.slice (some ⟨H, 0, none⟩) 2 2) [a, b] :=
  Lk.IsL.lits (K := KI) w [a, b] #[.int .i64 a, .int .i64 b] (fun x hx => by rcases List.mem_cons.1 hx with rfl | hx; exact ha; rcases List.mem_cons.1 hx with rfl | hx; exact hb; cases hx) rfl (by simp) H e

set_option maxRecDepth 100000 in
set_option maxHeartbeats 8000000 in
theorem clash_any (d : Dk) (a b : Int) (ha : fits a) (hb : fits b) (w : World) (hd : d.In w w.heap.size) : Calls Try.prog 26 #[d.v, .int .i64 a, .int .i64 b] w fun e w' => e = .returned (.tuple #[.bool (clV d a b), .int .i64 (spsE d [a, b])]) ∧ Below w.heap.size w w' := by
  have HD := Lib.hid hd
  have HSP := Lib.hid (fun w v h1 h2 => spans_any d v [a, b] w h1 h2 (by simp))
  have HGD := Lib.hid (sps_good d hd [a, b])
  have HS2 := Lib.hid (sps2 d a b)
  have HE0 := Lib.hid (spsE_0 d [a, b])
  have HRV := Lib.hid (show clV d a b = if spsE d [a, b] = 0 then decide ((spA d a).1 ≤ (spA d b).2 ∧ (spA d b).1 ≤ (spA d a).2) else false from rfl)
  rw [HRV.out]
  obtain ⟨w0, hw0⟩ : ∃ w0, w0 = (w.alloc (.cells #[.slice d.bA d.bn d.bc, .slice d.pA d.pn d.pc, .slice d.rA d.rn d.rc, .int .i64 d.arms] 26)).alloc (.cells #[.int .i64 a, .int .i64 b] 3) := ⟨_, rfl⟩
  have HB0 := Lib.hid (show Below w.heap.size w w0 by rw [hw0]; exact Below.al (Below.al (Below.refl _ _) _) _)
  have HD0 := Lib.hid (HD.out.then HB0.out)
  have HL0 := Lib.hid (show KI.IsL w0 w0.heap.size (.slice (some ⟨w.heap.size + 1, 0, none⟩) 2 2) [a, b] by
    have := lit2 (w.alloc (.cells #[.slice d.bA d.bn d.bc, .slice d.pA d.pn d.pc, .slice d.rA d.rn d.rc, .int .i64 d.arms] 26)) a b ha hb (w.heap.size + 1) (by simp)
    rw [hw0]
    simpa using this)
  have hsz0 : w.heap.size < w0.heap.size := by rw [hw0]; simp; omega
  have HF := Lib.hid (show ∀ w1, Below w0.heap.size w0 w1 → (w1.cell? ⟨w.heap.size, 0, none⟩ = some (.slice d.bA d.bn d.bc) ∧ w1.cell? ⟨w.heap.size, 1, none⟩ = some (.slice d.pA d.pn d.pc) ∧ w1.cell? ⟨w.heap.size, 2, none⟩ = some (.slice d.rA d.rn d.rc) ∧ w1.cell? ⟨w.heap.size, 3, none⟩ = some (.int .i64 d.arms)) from by
      intro w1 hb
      refine ⟨keep_cell hb ?_, keep_cell hb ?_, keep_cell hb ?_, keep_cell hb ?_⟩
      all_goals (rw [hw0]; simp [go_sem]))
  clear HRV hd
  by_cases hz : spsE d [a, b] = 0
  · rw [HS2.out hz, hz] at HSP
    rw [HS2.out hz] at HGD
    rw [hz, if_pos rfl]
    have g1 := HGD.out (spA d a) (by simp)
    have g2 := HGD.out (spA d b) (by simp)
    clear hz HS2 HE0 HGD
    generalize spA d a = p at *
    generalize spA d b = q at *
    obtain ⟨p1, p2⟩ := p
    obtain ⟨q1, q2⟩ := q
    dsimp only at *
    obtain ⟨p1, rfl⟩ : ∃ k : Nat, p1 = (k : Int) := ⟨p1.toNat, by omega⟩
    obtain ⟨p2, rfl⟩ : ∃ k : Nat, p2 = (k : Int) := ⟨p2.toNat, by omega⟩
    obtain ⟨q1, rfl⟩ : ∃ k : Nat, q1 = (k : Int) := ⟨q1.toNat, by omega⟩
    obtain ⟨q2, rfl⟩ : ∃ k : Nat, q2 = (k : Int) := ⟨q2.toNat, by omega⟩
    obtain ⟨R, hR⟩ : ∃ R, R = decide ((p1 : Int) ≤ q2 ∧ (q1 : Int) ≤ p2) := ⟨_, rfl⟩
    rw [← hR]
    have HR := Lib.hid hR
    clear hR
    go_enter Try.func26, Try.ntmps26
    go_wp2_with fail
    rw [← hw0]
    clear hw0
    refine (HSP.out w0 _ HD0.out HL0.out).mono ?_
    rintro e w1 ⟨tv, rfl, hown1, hb1⟩
    have HB1 := Lib.hid hb1
    obtain ⟨tb, toff, tcap, rfl, htb, htc, e0, e1, e2, e3⟩ := two_cells (hown1.isL (by simp))
    obtain ⟨d0, d1, d2, d3⟩ := HF.out w1 hb1
    have hsw : w.heap.size < w1.heap.size := Nat.lt_of_lt_of_le hsz0 hb1.size
    clear hb1 hown1
    have HM := Lib.hid (fun w => show Calls Try.prog 63 #[.agg #[.int .i64 p1, .int .i64 p2], .agg #[.int .i64 q1, .int .i64 q2]] w fun e w' => e = .returned (.bool (decide ((p1 : Int) ≤ q2 ∧ (q1 : Int) ≤ p2))) ∧ Below w.heap.size w w' by
      have := Sp.meets_any ((p1 : Int), (p2 : Int)) ((q1 : Int), (q2 : Int)) w
      have e : Sp.meetsB ((p1 : Int), (p2 : Int)) ((q1 : Int), (q2 : Int)) = decide ((p1 : Int) ≤ q2 ∧ (q1 : Int) ≤ p2) := by
        unfold Sp.meetsB
        apply decide_eq_decide.2
        dsimp only
        omega
      rwa [e] at this)
    rw [← HR.out] at HM
    go_wp2_with fail
    refine wp_region_held_drew (S := fun w' => w'.cell? ⟨tb, toff, none⟩ = some (.int .i64 p1) ∧ w'.cell? ⟨tb, toff + 1, none⟩ = some (.int .i64 p2) ∧ w'.cell? ⟨tb, toff + 2, none⟩ = some (.int .i64 q1) ∧ w'.cell? ⟨tb, toff + 3, none⟩ = some (.int .i64 q2)) (by kernel_rfl) ?_ (fun hHeld => ?_)
    · exact ⟨e0, e1, e2, e3⟩
    refine wpAnyH_take (i := 0) (oi := ⟨some 21, _, _, _, _, _⟩) (v := ?_) rfl (by kernel_rfl) (by kernel_rfl) (by kernel_rfl) (fun _ _ _ h => h) (Or.inl ⟨by kernel_rfl, ?_⟩) (by assumption) ?_
    rotate_left 1
    · ((intro w hSw; (try dsimp only at hSw); go_simp) <;> (try with_reducible rfl))
    (try simp only [Act.put, List.setIfInBounds_toArray, List.set_cons_zero, List.set_cons_succ])
    refine wpAnyH_take (i := 1) (oi := ⟨some 22, _, _, _, _, _⟩) (v := ?_) rfl (by kernel_rfl) (by kernel_rfl) (by kernel_rfl) (fun _ _ _ h => h) (Or.inl ⟨by kernel_rfl, ?_⟩) (by assumption) ?_
    rotate_left 1
    · ((intro w hSw; (try dsimp only at hSw); go_simp) <;> (try with_reducible rfl))
    (try simp only [Act.put, List.setIfInBounds_toArray, List.set_cons_zero, List.set_cons_succ])
    refine wpAnyH_take (i := 2) (oi := ⟨some 23, _, _, _, _, _⟩) (v := ?_) rfl (by kernel_rfl) (by kernel_rfl) (by kernel_rfl) (fun _ _ _ h => h) (Or.inl ⟨by kernel_rfl, ?_⟩) (by assumption) ?_
    rotate_left 1
    · ((intro w hSw; (try dsimp only at hSw); go_simp) <;> (try with_reducible rfl))
    (try simp only [Act.put, List.setIfInBounds_toArray, List.set_cons_zero, List.set_cons_succ])
    refine wpAnyH_take (i := 3) (oi := ⟨some 24, _, _, _, _, _⟩) (v := ?_) rfl (by kernel_rfl) (by kernel_rfl) (by kernel_rfl) (fun _ _ _ h => h) (Or.inl ⟨by kernel_rfl, ?_⟩) (by assumption) ?_
    rotate_left 1
    · ((intro w hSw; (try dsimp only at hSw); go_simp) <;> (try with_reducible rfl))
    (try simp only [Act.put, List.setIfInBounds_toArray, List.set_cons_zero, List.set_cons_succ])
    refine wpAnyH_take (i := 4) (oi := ⟨some 25, _, _, _, _, _⟩) (v := ?_) rfl (by kernel_rfl) (by kernel_rfl) (by kernel_rfl) (fun _ _ _ h => h) (Or.inl ⟨by kernel_rfl, ?_⟩) (by assumption) ?_
    rotate_left 1
    · ((intro w hSw; (try dsimp only at hSw); go_simp) <;> (try with_reducible rfl))
    (try simp only [Act.put, List.setIfInBounds_toArray, List.set_cons_zero, List.set_cons_succ])
    refine wpAnyH_take (i := 5) (oi := ⟨some 26, _, _, _, _, _⟩) (v := ?_) rfl (by kernel_rfl) (by kernel_rfl) (by kernel_rfl) (fun _ _ _ h => h) (Or.inl ⟨by kernel_rfl, ?_⟩) (by assumption) ?_
    rotate_left 1
    · ((intro w hSw; (try dsimp only at hSw); go_simp) <;> (try with_reducible rfl))
    (try simp only [Act.put, List.setIfInBounds_toArray, List.set_cons_zero, List.set_cons_succ])
    clear e0 e1 e2 e3
    refine wpAnyH_ready (rs := [6]) (by kernel_rfl) (by simp) ?_
    refine AllReadyH.cons (o := ⟨some 27, _, _, _, _, _⟩) rfl (fun K hK => ?_) AllReadyH.nil
    go_simp
    refine (HM.out _).mono ?_
    rintro e w6 ⟨rfl, hb⟩
    have HB6 := Lib.hid (Below.call HB1.out.drew hb)
    go_wp2_with fail
    refine hK.out _ _ ?_ (fun hHeld => ?_)
    · exact ⟨keep_cell hb hHeld.1, keep_cell hb hHeld.2.1, keep_cell hb hHeld.2.2.1, keep_cell hb hHeld.2.2.2⟩
    clear hK K hb
    (try simp only [Act.put, List.setIfInBounds_toArray, List.set_cons_zero, List.set_cons_succ])
    refine wpAnyH_take (i := 7) (oi := ⟨some 6, _, _, _, _, _⟩) (v := ?_) rfl (by kernel_rfl) (by kernel_rfl) (by kernel_rfl) (fun _ _ _ h => h) (Or.inl ⟨by kernel_rfl, ?_⟩) (by assumption) ?_
    rotate_left 1
    · ((intro w hSw; (try dsimp only at hSw); go_simp) <;> (try with_reducible rfl))
    (try simp only [Act.put, List.setIfInBounds_toArray, List.set_cons_zero, List.set_cons_succ])
    refine wpAnyH_take (i := 8) (oi := ⟨some 7, _, _, _, _, _⟩) (v := ?_) rfl (by kernel_rfl) (by kernel_rfl) (by kernel_rfl) (fun _ _ _ h => h) (Or.inl ⟨by kernel_rfl, ?_⟩) (by assumption) ?_
    rotate_left 1
    · ((intro w hSw; (try dsimp only at hSw); go_simp) <;> (try with_reducible rfl))
    (try simp only [Act.put, List.setIfInBounds_toArray, List.set_cons_zero, List.set_cons_succ])
    refine wpAnyH_done (by kernel_rfl) ?_ _
    go_wp2
    go_ret2
    exact ⟨rfl, Below.call HB0.out HB6.out⟩
  · rw [HE0.out hz] at HSP
    rw [if_neg hz]
    have hz' : (spsE d [a, b] != 0) = true := by rw [bne_iff_ne]; exact hz
    clear hz HS2 HE0 HGD
    generalize spsE d [a, b] = SE at *
    go_enter Try.func26, Try.ntmps26
    go_wp2_with fail
    rw [← hw0]
    clear hw0
    refine (HSP.out w0 _ HD0.out HL0.out).mono ?_
    rintro e w1 ⟨tv, rfl, _, hb1⟩
    have HB1 := Lib.hid hb1
    clear hb1
    go_wp2
    go_ret2
    exact ⟨rfl, Below.call HB0.out HB1.out⟩

set_option maxRecDepth 100000 in
set_option maxHeartbeats 8000000 in
theorem rclash_any (d : Dk) (a b : Int) (ha : fits a) (hb : fits b) (w : World) (hd : d.In w w.heap.size) : Calls Try.prog 27 #[d.v, .int .i64 a, .int .i64 b] w fun e w' => e = .returned (.tuple #[.bool (clV d a b), .int .i64 (spsE d [a, b])]) ∧ Below w.heap.size w w' := by
  have HD := Lib.hid hd
  have HSP := Lib.hid (fun w v h1 h2 => rspans_any d v [a, b] w h1 h2 (by simp))
  have HGD := Lib.hid (sps_good d hd [a, b])
  have HS2 := Lib.hid (sps2 d a b)
  have HE0 := Lib.hid (spsE_0 d [a, b])
  have HRV := Lib.hid (show clV d a b = if spsE d [a, b] = 0 then decide ((spA d a).1 ≤ (spA d b).2 ∧ (spA d b).1 ≤ (spA d a).2) else false from rfl)
  rw [HRV.out]
  obtain ⟨w0, hw0⟩ : ∃ w0, w0 = (w.alloc (.cells #[.slice d.bA d.bn d.bc, .slice d.pA d.pn d.pc, .slice d.rA d.rn d.rc, .int .i64 d.arms] 26)).alloc (.cells #[.int .i64 a, .int .i64 b] 3) := ⟨_, rfl⟩
  have HB0 := Lib.hid (show Below w.heap.size w w0 by rw [hw0]; exact Below.al (Below.al (Below.refl _ _) _) _)
  have HD0 := Lib.hid (HD.out.then HB0.out)
  have HL0 := Lib.hid (show KI.IsL w0 w0.heap.size (.slice (some ⟨w.heap.size + 1, 0, none⟩) 2 2) [a, b] by
    have := lit2 (w.alloc (.cells #[.slice d.bA d.bn d.bc, .slice d.pA d.pn d.pc, .slice d.rA d.rn d.rc, .int .i64 d.arms] 26)) a b ha hb (w.heap.size + 1) (by simp)
    rw [hw0]
    simpa using this)
  have hsz0 : w.heap.size < w0.heap.size := by rw [hw0]; simp; omega
  have HF := Lib.hid (show ∀ w1, Below w0.heap.size w0 w1 → (w1.cell? ⟨w.heap.size, 0, none⟩ = some (.slice d.bA d.bn d.bc) ∧ w1.cell? ⟨w.heap.size, 1, none⟩ = some (.slice d.pA d.pn d.pc) ∧ w1.cell? ⟨w.heap.size, 2, none⟩ = some (.slice d.rA d.rn d.rc) ∧ w1.cell? ⟨w.heap.size, 3, none⟩ = some (.int .i64 d.arms)) from by
      intro w1 hb
      refine ⟨keep_cell hb ?_, keep_cell hb ?_, keep_cell hb ?_, keep_cell hb ?_⟩
      all_goals (rw [hw0]; simp [go_sem]))
  clear HRV hd
  by_cases hz : spsE d [a, b] = 0
  · rw [HS2.out hz, hz] at HSP
    rw [HS2.out hz] at HGD
    rw [hz, if_pos rfl]
    have g1 := HGD.out (spA d a) (by simp)
    have g2 := HGD.out (spA d b) (by simp)
    clear hz HS2 HE0 HGD
    generalize spA d a = p at *
    generalize spA d b = q at *
    obtain ⟨p1, p2⟩ := p
    obtain ⟨q1, q2⟩ := q
    dsimp only at *
    obtain ⟨p1, rfl⟩ : ∃ k : Nat, p1 = (k : Int) := ⟨p1.toNat, by omega⟩
    obtain ⟨p2, rfl⟩ : ∃ k : Nat, p2 = (k : Int) := ⟨p2.toNat, by omega⟩
    obtain ⟨q1, rfl⟩ : ∃ k : Nat, q1 = (k : Int) := ⟨q1.toNat, by omega⟩
    obtain ⟨q2, rfl⟩ : ∃ k : Nat, q2 = (k : Int) := ⟨q2.toNat, by omega⟩
    obtain ⟨R, hR⟩ : ∃ R, R = decide ((p1 : Int) ≤ q2 ∧ (q1 : Int) ≤ p2) := ⟨_, rfl⟩
    rw [← hR]
    have HR := Lib.hid hR
    clear hR
    go_enter Try.func27, Try.ntmps27
    go_wp2_with fail
    rw [← hw0]
    clear hw0
    refine (HSP.out w0 _ HD0.out HL0.out).mono ?_
    rintro e w1 ⟨tv, rfl, hown1, hb1⟩
    have HB1 := Lib.hid hb1
    obtain ⟨tb, toff, tcap, rfl, htb, htc, e0, e1, e2, e3⟩ := two_cells (hown1.isL (by simp))
    obtain ⟨d0, d1, d2, d3⟩ := HF.out w1 hb1
    have hsw : w.heap.size < w1.heap.size := Nat.lt_of_lt_of_le hsz0 hb1.size
    clear hb1 hown1
    by_cases hg : (p1 : Int) ≤ q2
    · have HT := Lib.hid (show decide ((p1 : Int) ≤ q2 ∧ (q1 : Int) ≤ p2) = decide ((q1 : Int) ≤ p2) by apply decide_eq_decide.2; omega)
      obtain rfl := HR.out.trans HT.out
      have hgd : decide ((p1 : Int) ≤ q2) = true := decide_eq_true hg
      go_wp2_with fail
      go_quiet (fail)
      go_wp2
      go_ret2
      exact ⟨by simp, below_drewN (Below.call HB0.out HB1.out) _⟩
    · have HT := Lib.hid (show decide ((p1 : Int) ≤ q2 ∧ (q1 : Int) ≤ p2) = false by apply decide_eq_false; omega)
      obtain rfl := HR.out.trans HT.out
      have hgd : decide ((p1 : Int) ≤ q2) = false := decide_eq_false hg
      go_wp2_with fail
      refine wp_region_held_drew (S := fun w' => w'.cell? ⟨tb, toff, none⟩ = some (.int .i64 p1) ∧ w'.cell? ⟨tb, toff + 1, none⟩ = some (.int .i64 p2) ∧ w'.cell? ⟨tb, toff + 2, none⟩ = some (.int .i64 q1) ∧ w'.cell? ⟨tb, toff + 3, none⟩ = some (.int .i64 q2)) (by kernel_rfl) ?_ (fun hHeld => ?_)
      · exact ⟨e0, e1, e2, e3⟩
      refine wpAnyH_take (i := 0) (oi := ⟨some 21, _, _, _, _, _⟩) (v := ?_) rfl (by kernel_rfl) (by kernel_rfl) (by kernel_rfl) (fun _ _ _ h => h) (Or.inl ⟨by kernel_rfl, ?_⟩) (by assumption) ?_
      rotate_left 1
      · ((intro w hSw; (try dsimp only at hSw); go_simp) <;> (try with_reducible rfl))
      (try simp only [Act.put, List.setIfInBounds_toArray, List.set_cons_zero, List.set_cons_succ])
      refine wpAnyH_take (i := 1) (oi := ⟨some 22, _, _, _, _, _⟩) (v := ?_) rfl (by kernel_rfl) (by kernel_rfl) (by kernel_rfl) (fun _ _ _ h => h) (Or.inl ⟨by kernel_rfl, ?_⟩) (by assumption) ?_
      rotate_left 1
      · ((intro w hSw; (try dsimp only at hSw); go_simp) <;> (try with_reducible rfl))
      (try simp only [Act.put, List.setIfInBounds_toArray, List.set_cons_zero, List.set_cons_succ])
      refine wpAnyH_take (i := 2) (oi := ⟨some 23, _, _, _, _, _⟩) (v := ?_) rfl (by kernel_rfl) (by kernel_rfl) (by kernel_rfl) (fun _ _ _ h => h) (Or.inl ⟨by kernel_rfl, ?_⟩) (by assumption) ?_
      rotate_left 1
      · ((intro w hSw; (try dsimp only at hSw); go_simp) <;> (try with_reducible rfl))
      (try simp only [Act.put, List.setIfInBounds_toArray, List.set_cons_zero, List.set_cons_succ])
      refine wpAnyH_take (i := 3) (oi := ⟨some 24, _, _, _, _, _⟩) (v := ?_) rfl (by kernel_rfl) (by kernel_rfl) (by kernel_rfl) (fun _ _ _ h => h) (Or.inl ⟨by kernel_rfl, ?_⟩) (by assumption) ?_
      rotate_left 1
      · ((intro w hSw; (try dsimp only at hSw); go_simp) <;> (try with_reducible rfl))
      (try simp only [Act.put, List.setIfInBounds_toArray, List.set_cons_zero, List.set_cons_succ])
      refine wpAnyH_take (i := 4) (oi := ⟨some 25, _, _, _, _, _⟩) (v := ?_) rfl (by kernel_rfl) (by kernel_rfl) (by kernel_rfl) (fun _ _ _ h => h) (Or.inl ⟨by kernel_rfl, ?_⟩) (by assumption) ?_
      rotate_left 1
      · ((intro w hSw; (try dsimp only at hSw); go_simp) <;> (try with_reducible rfl))
      (try simp only [Act.put, List.setIfInBounds_toArray, List.set_cons_zero, List.set_cons_succ])
      refine wpAnyH_take (i := 5) (oi := ⟨some 26, _, _, _, _, _⟩) (v := ?_) rfl (by kernel_rfl) (by kernel_rfl) (by kernel_rfl) (fun _ _ _ h => h) (Or.inl ⟨by kernel_rfl, ?_⟩) (by assumption) ?_
      rotate_left 1
      · ((intro w hSw; (try dsimp only at hSw); go_simp) <;> (try with_reducible rfl))
      (try simp only [Act.put, List.setIfInBounds_toArray, List.set_cons_zero, List.set_cons_succ])
      refine wpAnyH_take (i := 6) (oi := ⟨some 27, _, _, _, _, _⟩) (v := ?_) rfl (by kernel_rfl) (by kernel_rfl) (by kernel_rfl) (fun _ _ _ h => h) (Or.inl ⟨by kernel_rfl, ?_⟩) (by assumption) ?_
      rotate_left 1
      · ((intro w hSw; (try dsimp only at hSw); go_simp) <;> (try with_reducible rfl))
      (try simp only [Act.put, List.setIfInBounds_toArray, List.set_cons_zero, List.set_cons_succ])
      refine wpAnyH_take (i := 7) (oi := ⟨some 28, _, _, _, _, _⟩) (v := ?_) rfl (by kernel_rfl) (by kernel_rfl) (by kernel_rfl) (fun _ _ _ h => h) (Or.inl ⟨by kernel_rfl, ?_⟩) (by assumption) ?_
      rotate_left 1
      · ((intro w hSw; (try dsimp only at hSw); go_simp) <;> (try with_reducible rfl))
      (try simp only [Act.put, List.setIfInBounds_toArray, List.set_cons_zero, List.set_cons_succ])
      refine wpAnyH_take (i := 8) (oi := ⟨some 29, _, _, _, _, _⟩) (v := .bool false) rfl (by kernel_rfl) (by kernel_rfl) (by kernel_rfl) (fun _ _ _ h => h) (Or.inl ⟨by kernel_rfl, ?_⟩) (by assumption) ?_
      · ((intro w hSw; (try dsimp only at hSw); go_simp; (try simp [hg]); (try omega)) <;> (try rfl))
      (try simp only [Act.put, List.setIfInBounds_toArray, List.set_cons_zero, List.set_cons_succ])
      refine wpAnyH_take (i := 9) (oi := ⟨some 30, _, _, _, _, _⟩) (v := ?_) rfl (by kernel_rfl) (by kernel_rfl) (by kernel_rfl) (fun _ _ _ h => h) (Or.inl ⟨by kernel_rfl, ?_⟩) (by assumption) ?_
      rotate_left 1
      · ((intro w hSw; (try dsimp only at hSw); go_simp) <;> (try with_reducible rfl))
      (try simp only [Act.put, List.setIfInBounds_toArray, List.set_cons_zero, List.set_cons_succ])
      refine wpAnyH_take (i := 10) (oi := ⟨some 31, _, _, _, _, _⟩) (v := undef) rfl (by kernel_rfl) (by kernel_rfl) (by kernel_rfl) (fun _ _ _ h => h) (Or.inr ⟨by kernel_rfl, rfl⟩) (by assumption) ?_
      (try simp only [Act.put, List.setIfInBounds_toArray, List.set_cons_zero, List.set_cons_succ])
      refine wpAnyH_take (i := 11) (oi := ⟨some 32, _, _, _, _, _⟩) (v := undef) rfl (by kernel_rfl) (by kernel_rfl) (by kernel_rfl) (fun _ _ _ h => h) (Or.inr ⟨by kernel_rfl, rfl⟩) (by assumption) ?_
      (try simp only [Act.put, List.setIfInBounds_toArray, List.set_cons_zero, List.set_cons_succ])
      refine wpAnyH_take (i := 12) (oi := ⟨some 33, _, _, _, _, _⟩) (v := undef) rfl (by kernel_rfl) (by kernel_rfl) (by kernel_rfl) (fun _ _ _ h => h) (Or.inr ⟨by kernel_rfl, rfl⟩) (by assumption) ?_
      (try simp only [Act.put, List.setIfInBounds_toArray, List.set_cons_zero, List.set_cons_succ])
      refine wpAnyH_take (i := 13) (oi := ⟨some 34, _, _, _, _, _⟩) (v := undef) rfl (by kernel_rfl) (by kernel_rfl) (by kernel_rfl) (fun _ _ _ h => h) (Or.inr ⟨by kernel_rfl, rfl⟩) (by assumption) ?_
      (try simp only [Act.put, List.setIfInBounds_toArray, List.set_cons_zero, List.set_cons_succ])
      refine wpAnyH_take (i := 14) (oi := ⟨some 35, _, _, _, _, _⟩) (v := undef) rfl (by kernel_rfl) (by kernel_rfl) (by kernel_rfl) (fun _ _ _ h => h) (Or.inr ⟨by kernel_rfl, rfl⟩) (by assumption) ?_
      (try simp only [Act.put, List.setIfInBounds_toArray, List.set_cons_zero, List.set_cons_succ])
      refine wpAnyH_take (i := 15) (oi := ⟨some 36, _, _, _, _, _⟩) (v := undef) rfl (by kernel_rfl) (by kernel_rfl) (by kernel_rfl) (fun _ _ _ h => h) (Or.inr ⟨by kernel_rfl, rfl⟩) (by assumption) ?_
      (try simp only [Act.put, List.setIfInBounds_toArray, List.set_cons_zero, List.set_cons_succ])
      refine wpAnyH_take (i := 16) (oi := ⟨some 37, _, _, _, _, _⟩) (v := undef) rfl (by kernel_rfl) (by kernel_rfl) (by kernel_rfl) (fun _ _ _ h => h) (Or.inr ⟨by kernel_rfl, rfl⟩) (by assumption) ?_
      (try simp only [Act.put, List.setIfInBounds_toArray, List.set_cons_zero, List.set_cons_succ])
      refine wpAnyH_take (i := 17) (oi := ⟨some 38, _, _, _, _, _⟩) (v := undef) rfl (by kernel_rfl) (by kernel_rfl) (by kernel_rfl) (fun _ _ _ h => h) (Or.inr ⟨by kernel_rfl, rfl⟩) (by assumption) ?_
      (try simp only [Act.put, List.setIfInBounds_toArray, List.set_cons_zero, List.set_cons_succ])
      refine wpAnyH_take (i := 18) (oi := ⟨some 39, _, _, _, _, _⟩) (v := undef) rfl (by kernel_rfl) (by kernel_rfl) (by kernel_rfl) (fun _ _ _ h => h) (Or.inr ⟨by kernel_rfl, rfl⟩) (by assumption) ?_
      (try simp only [Act.put, List.setIfInBounds_toArray, List.set_cons_zero, List.set_cons_succ])
      refine wpAnyH_take (i := 19) (oi := ⟨some 40, _, _, _, _, _⟩) (v := ?_) rfl (by kernel_rfl) (by kernel_rfl) (by kernel_rfl) (fun _ _ _ h => h) (Or.inl ⟨by kernel_rfl, ?_⟩) (by assumption) ?_
      rotate_left 1
      · ((intro w hSw; (try dsimp only at hSw); go_simp) <;> (try with_reducible rfl))
      (try simp only [Act.put, List.setIfInBounds_toArray, List.set_cons_zero, List.set_cons_succ])
      refine wpAnyH_take (i := 20) (oi := ⟨some 6, _, _, _, _, _⟩) (v := ?_) rfl (by kernel_rfl) (by kernel_rfl) (by kernel_rfl) (fun _ _ _ h => h) (Or.inl ⟨by kernel_rfl, ?_⟩) (by assumption) ?_
      rotate_left 1
      · ((intro w hSw; (try dsimp only at hSw); go_simp) <;> (try with_reducible rfl))
      (try simp only [Act.put, List.setIfInBounds_toArray, List.set_cons_zero, List.set_cons_succ])
      refine wpAnyH_take (i := 21) (oi := ⟨some 7, _, _, _, _, _⟩) (v := ?_) rfl (by kernel_rfl) (by kernel_rfl) (by kernel_rfl) (fun _ _ _ h => h) (Or.inl ⟨by kernel_rfl, ?_⟩) (by assumption) ?_
      rotate_left 1
      · ((intro w hSw; (try dsimp only at hSw); go_simp) <;> (try with_reducible rfl))
      (try simp only [Act.put, List.setIfInBounds_toArray, List.set_cons_zero, List.set_cons_succ])
      refine wpAnyH_done (by kernel_rfl) ?_ _
      go_wp2
      go_ret2
      exact ⟨rfl, (Below.call HB0.out HB1.out).drew⟩
  · rw [HE0.out hz] at HSP
    rw [if_neg hz]
    have hz' : (spsE d [a, b] != 0) = true := by rw [bne_iff_ne]; exact hz
    clear hz HS2 HE0 HGD
    generalize spsE d [a, b] = SE at *
    go_enter Try.func27, Try.ntmps27
    go_wp2_with fail
    rw [← hw0]
    clear hw0
    refine (HSP.out w0 _ HD0.out HL0.out).mono ?_
    rintro e w1 ⟨tv, rfl, _, hb1⟩
    have HB1 := Lib.hid hb1
    clear hb1
    go_wp2
    go_ret2
    exact ⟨rfl, Below.call HB0.out HB1.out⟩

set_option maxRecDepth 100000 in
set_option maxHeartbeats 8000000 in
theorem path_any (d : Dk) (a b : Int) (ha : fits a) (hb : fits b) (w : World) (hd : d.In w w.heap.size) : Calls Try.prog 28 #[d.v, .int .i64 a, .int .i64 b] w fun e w' => ∃ u, e = .returned (.tuple #[u, .int .i64 (spsE d [a, b])]) ∧ KI.IsL w' w'.heap.size u (pathV d a b) ∧ Below w.heap.size w w' := by
  have HD := Lib.hid hd
  have HSP := Lib.hid (fun w v h1 h2 => spans_any d v [a, b] w h1 h2 (by simp))
  have HGD := Lib.hid (sps_good d hd [a, b])
  have HS2 := Lib.hid (sps2 d a b)
  have HE0 := Lib.hid (spsE_0 d [a, b])
  have HRV := Lib.hid (show pathV d a b = if spsE d [a, b] = 0 then lanesI (frst d) (min (spA d a).1 (spA d b).1).toNat ((max (spA d a).2 (spA d b).2).toNat + 1 - (min (spA d a).1 (spA d b).1).toNat) else [] from rfl)
  rw [HRV.out]
  obtain ⟨w0, hw0⟩ : ∃ w0, w0 = (w.alloc (.cells #[.slice d.bA d.bn d.bc, .slice d.pA d.pn d.pc, .slice d.rA d.rn d.rc, .int .i64 d.arms] 26)).alloc (.cells #[.int .i64 a, .int .i64 b] 3) := ⟨_, rfl⟩
  have HB0 := Lib.hid (show Below w.heap.size w w0 by rw [hw0]; exact Below.al (Below.al (Below.refl _ _) _) _)
  have HD0 := Lib.hid (HD.out.then HB0.out)
  have HL0 := Lib.hid (show KI.IsL w0 w0.heap.size (.slice (some ⟨w.heap.size + 1, 0, none⟩) 2 2) [a, b] by
    have := lit2 (w.alloc (.cells #[.slice d.bA d.bn d.bc, .slice d.pA d.pn d.pc, .slice d.rA d.rn d.rc, .int .i64 d.arms] 26)) a b ha hb (w.heap.size + 1) (by simp)
    rw [hw0]
    simpa using this)
  have hsz0 : w.heap.size < w0.heap.size := by rw [hw0]; simp; omega
  have HF := Lib.hid (show ∀ w1, Below w0.heap.size w0 w1 → (w1.cell? ⟨w.heap.size, 0, none⟩ = some (.slice d.bA d.bn d.bc) ∧ w1.cell? ⟨w.heap.size, 1, none⟩ = some (.slice d.pA d.pn d.pc) ∧ w1.cell? ⟨w.heap.size, 2, none⟩ = some (.slice d.rA d.rn d.rc) ∧ w1.cell? ⟨w.heap.size, 3, none⟩ = some (.int .i64 d.arms)) from by
      intro w1 hb
      refine ⟨keep_cell hb ?_, keep_cell hb ?_, keep_cell hb ?_, keep_cell hb ?_⟩
      all_goals (rw [hw0]; simp [go_sem]))
  clear HRV hd
  by_cases hz : spsE d [a, b] = 0
  · rw [HS2.out hz, hz] at HSP
    rw [HS2.out hz] at HGD
    rw [hz, if_pos rfl]
    have g1 := HGD.out (spA d a) (by simp)
    have g2 := HGD.out (spA d b) (by simp)
    clear hz HS2 HE0 HGD
    generalize spA d a = p at *
    generalize spA d b = q at *
    obtain ⟨p1, p2⟩ := p
    obtain ⟨q1, q2⟩ := q
    dsimp only at *
    obtain ⟨p1, rfl⟩ : ∃ k : Nat, p1 = (k : Int) := ⟨p1.toNat, by omega⟩
    obtain ⟨p2, rfl⟩ : ∃ k : Nat, p2 = (k : Int) := ⟨p2.toNat, by omega⟩
    obtain ⟨q1, rfl⟩ : ∃ k : Nat, q1 = (k : Int) := ⟨q1.toNat, by omega⟩
    obtain ⟨q2, rfl⟩ : ∃ k : Nat, q2 = (k : Int) := ⟨q2.toNat, by omega⟩
    have m1 : min (p1 : Int) q1 = ((min p1 q1 : Nat) : Int) := by omega
    have m2 : max (p2 : Int) q2 = ((max p2 q2 : Nat) : Int) := by omega
    rw [m1, m2, Int.toNat_natCast, Int.toNat_natCast]
    obtain ⟨lo, hlo⟩ : ∃ lo, lo = min p1 q1 := ⟨_, rfl⟩
    obtain ⟨hi, hhi⟩ : ∃ hi, hi = max p2 q2 := ⟨_, rfl⟩
    rw [← hlo, ← hhi]
    have hmm : hi ≤ 23 := by omega
    have hlh : lo ≤ hi := by omega
    have HLO := Lib.hid hlo
    have HHI := Lib.hid hhi
    clear hlo hhi
    go_enter Try.func28, Try.ntmps28
    go_wp2_with fail
    rw [← hw0]
    clear hw0
    refine (HSP.out w0 _ HD0.out HL0.out).mono ?_
    rintro e w1 ⟨tv, rfl, hown1, hb1⟩
    have HB1 := Lib.hid hb1
    obtain ⟨tb, toff, tcap, rfl, htb, htc, e0, e1, e2, e3⟩ := two_cells (hown1.isL (by simp))
    obtain ⟨d0, d1, d2, d3⟩ := HF.out w1 hb1
    have hsw : w.heap.size < w1.heap.size := Nat.lt_of_lt_of_le hsz0 hb1.size
    clear hb1 hown1
    have HH := Lib.hid (fun w => show Calls Try.prog 64 #[.agg #[.int .i64 p1, .int .i64 p2], .agg #[.int .i64 q1, .int .i64 q2]] w fun e w' => e = .returned (.agg #[.int .i64 lo, .int .i64 hi]) ∧ Below w.heap.size w w' by
      have := Sp.hull_any ((p1 : Int), (p2 : Int)) ((q1 : Int), (q2 : Int)) w
      rw [Sp.hullV_yy (show ¬ (p2 : Int) < p1 by omega) (show ¬ (q2 : Int) < q1 by omega)] at this
      dsimp only at this
      rwa [m1, m2, ← HLO.out, ← HHI.out] at this)
    have HLA := Lib.hid (fun (V : World) (h : Below w0.heap.size w0 V) => lanes_any d lo hi hlh hmm V (HD0.out.then h))
    clear m1 m2
    go_wp2_with fail
    refine wp_region_held_drew (S := fun w' => w'.cell? ⟨w.heap.size, 0, none⟩ = some (.slice d.bA d.bn d.bc) ∧ w'.cell? ⟨w.heap.size, 1, none⟩ = some (.slice d.pA d.pn d.pc) ∧ w'.cell? ⟨w.heap.size, 2, none⟩ = some (.slice d.rA d.rn d.rc) ∧ w'.cell? ⟨w.heap.size, 3, none⟩ = some (.int .i64 d.arms) ∧ w'.cell? ⟨tb, toff, none⟩ = some (.int .i64 p1) ∧ w'.cell? ⟨tb, toff + 1, none⟩ = some (.int .i64 p2) ∧ w'.cell? ⟨tb, toff + 2, none⟩ = some (.int .i64 q1) ∧ w'.cell? ⟨tb, toff + 3, none⟩ = some (.int .i64 q2)) (by kernel_rfl) ?_ (fun hHeld => ?_)
    · exact ⟨d0, d1, d2, d3, e0, e1, e2, e3⟩
    refine wpAnyH_take (i := 0) (oi := ⟨some 21, _, _, _, _, _⟩) (v := ?_) rfl (by kernel_rfl) (by kernel_rfl) (by kernel_rfl) (fun _ _ _ h => h) (Or.inl ⟨by kernel_rfl, ?_⟩) (by assumption) ?_
    rotate_left 1
    · ((intro w hSw; (try dsimp only at hSw); go_simp) <;> (try with_reducible rfl))
    (try simp only [Act.put, List.setIfInBounds_toArray, List.set_cons_zero, List.set_cons_succ])
    refine wpAnyH_take (i := 1) (oi := ⟨some 22, _, _, _, _, _⟩) (v := ?_) rfl (by kernel_rfl) (by kernel_rfl) (by kernel_rfl) (fun _ _ _ h => h) (Or.inl ⟨by kernel_rfl, ?_⟩) (by assumption) ?_
    rotate_left 1
    · ((intro w hSw; (try dsimp only at hSw); go_simp) <;> (try with_reducible rfl))
    (try simp only [Act.put, List.setIfInBounds_toArray, List.set_cons_zero, List.set_cons_succ])
    refine wpAnyH_take (i := 2) (oi := ⟨some 23, _, _, _, _, _⟩) (v := ?_) rfl (by kernel_rfl) (by kernel_rfl) (by kernel_rfl) (fun _ _ _ h => h) (Or.inl ⟨by kernel_rfl, ?_⟩) (by assumption) ?_
    rotate_left 1
    · ((intro w hSw; (try dsimp only at hSw); go_simp) <;> (try with_reducible rfl))
    (try simp only [Act.put, List.setIfInBounds_toArray, List.set_cons_zero, List.set_cons_succ])
    refine wpAnyH_take (i := 3) (oi := ⟨some 24, _, _, _, _, _⟩) (v := ?_) rfl (by kernel_rfl) (by kernel_rfl) (by kernel_rfl) (fun _ _ _ h => h) (Or.inl ⟨by kernel_rfl, ?_⟩) (by assumption) ?_
    rotate_left 1
    · ((intro w hSw; (try dsimp only at hSw); go_simp) <;> (try with_reducible rfl))
    (try simp only [Act.put, List.setIfInBounds_toArray, List.set_cons_zero, List.set_cons_succ])
    refine wpAnyH_take (i := 4) (oi := ⟨some 25, _, _, _, _, _⟩) (v := ?_) rfl (by kernel_rfl) (by kernel_rfl) (by kernel_rfl) (fun _ _ _ h => h) (Or.inl ⟨by kernel_rfl, ?_⟩) (by assumption) ?_
    rotate_left 1
    · ((intro w hSw; (try dsimp only at hSw); go_simp) <;> (try with_reducible rfl))
    (try simp only [Act.put, List.setIfInBounds_toArray, List.set_cons_zero, List.set_cons_succ])
    refine wpAnyH_take (i := 5) (oi := ⟨some 26, _, _, _, _, _⟩) (v := ?_) rfl (by kernel_rfl) (by kernel_rfl) (by kernel_rfl) (fun _ _ _ h => h) (Or.inl ⟨by kernel_rfl, ?_⟩) (by assumption) ?_
    rotate_left 1
    · ((intro w hSw; (try dsimp only at hSw); go_simp) <;> (try with_reducible rfl))
    (try simp only [Act.put, List.setIfInBounds_toArray, List.set_cons_zero, List.set_cons_succ])
    refine wpAnyH_take (i := 6) (oi := ⟨some 27, _, _, _, _, _⟩) (v := ?_) rfl (by kernel_rfl) (by kernel_rfl) (by kernel_rfl) (fun _ _ _ h => h) (Or.inl ⟨by kernel_rfl, ?_⟩) (by assumption) ?_
    rotate_left 1
    · ((intro w hSw; (try dsimp only at hSw); go_simp) <;> (try with_reducible rfl))
    (try simp only [Act.put, List.setIfInBounds_toArray, List.set_cons_zero, List.set_cons_succ])
    clear d0 d1 d2 d3 e0 e1 e2 e3
    refine wpAnyH_ready (rs := [7]) (by kernel_rfl) (by simp) ?_
    refine AllReadyH.cons (o := ⟨some 28, _, _, _, _, _⟩) rfl (fun K hK => ?_) AllReadyH.nil
    go_simp
    refine (HH.out _).mono ?_
    rintro e w6 ⟨rfl, hb⟩
    have HB6 := Lib.hid (Below.call HB1.out.drew hb)
    go_wp2_with fail
    refine hK.out _ _ ?_ (fun hHeld => ?_)
    · exact ⟨keep_cell hb hHeld.1, keep_cell hb hHeld.2.1, keep_cell hb hHeld.2.2.1, keep_cell hb hHeld.2.2.2.1, keep_cell hb hHeld.2.2.2.2.1, keep_cell hb hHeld.2.2.2.2.2.1, keep_cell hb hHeld.2.2.2.2.2.2.1, keep_cell hb hHeld.2.2.2.2.2.2.2⟩
    clear hK K hb
    (try simp only [Act.put, List.setIfInBounds_toArray, List.set_cons_zero, List.set_cons_succ])
    refine wpAnyH_ready (rs := [8]) (by kernel_rfl) (by simp) ?_
    refine AllReadyH.cons (o := ⟨some 29, _, _, _, _, _⟩) rfl (fun K hK => ?_) AllReadyH.nil
    go_simp
    refine (HLA.out _ HB6.out).mono ?_
    rintro e w7 ⟨lv, rfl, hown7, hb⟩
    have HIL7 := Lib.hid (hown7.isL (by rw [lanes_len]; omega))
    have HB7 := Lib.hid (Below.call HB6.out hb)
    clear hown7
    go_wp2_with fail
    refine hK.out _ _ ?_ (fun hHeld => ?_)
    · exact ⟨keep_cell hb hHeld.1, keep_cell hb hHeld.2.1, keep_cell hb hHeld.2.2.1, keep_cell hb hHeld.2.2.2.1, keep_cell hb hHeld.2.2.2.2.1, keep_cell hb hHeld.2.2.2.2.2.1, keep_cell hb hHeld.2.2.2.2.2.2.1, keep_cell hb hHeld.2.2.2.2.2.2.2⟩
    clear hK K hb
    (try simp only [Act.put, List.setIfInBounds_toArray, List.set_cons_zero, List.set_cons_succ])
    refine wpAnyH_take (i := 9) (oi := ⟨some 6, _, _, _, _, _⟩) (v := ?_) rfl (by kernel_rfl) (by kernel_rfl) (by kernel_rfl) (fun _ _ _ h => h) (Or.inl ⟨by kernel_rfl, ?_⟩) (by assumption) ?_
    rotate_left 1
    · ((intro w hSw; (try dsimp only at hSw); go_simp) <;> (try with_reducible rfl))
    (try simp only [Act.put, List.setIfInBounds_toArray, List.set_cons_zero, List.set_cons_succ])
    refine wpAnyH_take (i := 10) (oi := ⟨some 7, _, _, _, _, _⟩) (v := ?_) rfl (by kernel_rfl) (by kernel_rfl) (by kernel_rfl) (fun _ _ _ h => h) (Or.inl ⟨by kernel_rfl, ?_⟩) (by assumption) ?_
    rotate_left 1
    · ((intro w hSw; (try dsimp only at hSw); go_simp) <;> (try with_reducible rfl))
    (try simp only [Act.put, List.setIfInBounds_toArray, List.set_cons_zero, List.set_cons_succ])
    refine wpAnyH_done (by kernel_rfl) ?_ _
    go_wp2
    go_ret2
    exact ⟨_, rfl, HIL7.out, Below.call HB0.out HB7.out⟩
  · rw [HE0.out hz] at HSP
    rw [if_neg hz]
    have hz' : (spsE d [a, b] != 0) = true := by rw [bne_iff_ne]; exact hz
    clear hz HS2 HE0 HGD
    generalize spsE d [a, b] = SE at *
    go_enter Try.func28, Try.ntmps28
    go_wp2_with fail
    rw [← hw0]
    clear hw0
    refine (HSP.out w0 _ HD0.out HL0.out).mono ?_
    rintro e w1 ⟨tv, rfl, _, hb1⟩
    have HB1 := Lib.hid hb1
    clear hb1
    go_wp2
    go_ret2
    exact ⟨_, rfl, Lk.IsL.nil _ _ _ _, Below.call HB0.out HB1.out⟩

set_option maxRecDepth 100000 in
set_option maxHeartbeats 8000000 in
theorem rpath_any (d : Dk) (a b : Int) (ha : fits a) (hb : fits b) (w : World) (hd : d.In w w.heap.size) : Calls Try.prog 29 #[d.v, .int .i64 a, .int .i64 b] w fun e w' => ∃ u, e = .returned (.tuple #[u, .int .i64 (spsE d [a, b])]) ∧ KI.IsL w' w'.heap.size u (pathV d a b) ∧ Below w.heap.size w w' := by
  have HD := Lib.hid hd
  have HSP := Lib.hid (fun w v h1 h2 => rspans_any d v [a, b] w h1 h2 (by simp))
  have HGD := Lib.hid (sps_good d hd [a, b])
  have HS2 := Lib.hid (sps2 d a b)
  have HE0 := Lib.hid (spsE_0 d [a, b])
  have HRV := Lib.hid (show pathV d a b = if spsE d [a, b] = 0 then lanesI (frst d) (min (spA d a).1 (spA d b).1).toNat ((max (spA d a).2 (spA d b).2).toNat + 1 - (min (spA d a).1 (spA d b).1).toNat) else [] from rfl)
  rw [HRV.out]
  obtain ⟨w0, hw0⟩ : ∃ w0, w0 = (w.alloc (.cells #[.slice d.bA d.bn d.bc, .slice d.pA d.pn d.pc, .slice d.rA d.rn d.rc, .int .i64 d.arms] 26)).alloc (.cells #[.int .i64 a, .int .i64 b] 3) := ⟨_, rfl⟩
  have HB0 := Lib.hid (show Below w.heap.size w w0 by rw [hw0]; exact Below.al (Below.al (Below.refl _ _) _) _)
  have HD0 := Lib.hid (HD.out.then HB0.out)
  have HL0 := Lib.hid (show KI.IsL w0 w0.heap.size (.slice (some ⟨w.heap.size + 1, 0, none⟩) 2 2) [a, b] by
    have := lit2 (w.alloc (.cells #[.slice d.bA d.bn d.bc, .slice d.pA d.pn d.pc, .slice d.rA d.rn d.rc, .int .i64 d.arms] 26)) a b ha hb (w.heap.size + 1) (by simp)
    rw [hw0]
    simpa using this)
  have hsz0 : w.heap.size < w0.heap.size := by rw [hw0]; simp; omega
  have HF := Lib.hid (show ∀ w1, Below w0.heap.size w0 w1 → (w1.cell? ⟨w.heap.size, 0, none⟩ = some (.slice d.bA d.bn d.bc) ∧ w1.cell? ⟨w.heap.size, 1, none⟩ = some (.slice d.pA d.pn d.pc) ∧ w1.cell? ⟨w.heap.size, 2, none⟩ = some (.slice d.rA d.rn d.rc) ∧ w1.cell? ⟨w.heap.size, 3, none⟩ = some (.int .i64 d.arms)) from by
      intro w1 hb
      refine ⟨keep_cell hb ?_, keep_cell hb ?_, keep_cell hb ?_, keep_cell hb ?_⟩
      all_goals (rw [hw0]; simp [go_sem]))
  clear HRV hd
  by_cases hz : spsE d [a, b] = 0
  · rw [HS2.out hz, hz] at HSP
    rw [HS2.out hz] at HGD
    rw [hz, if_pos rfl]
    have g1 := HGD.out (spA d a) (by simp)
    have g2 := HGD.out (spA d b) (by simp)
    clear hz HS2 HE0 HGD
    generalize spA d a = p at *
    generalize spA d b = q at *
    obtain ⟨p1, p2⟩ := p
    obtain ⟨q1, q2⟩ := q
    dsimp only at *
    obtain ⟨p1, rfl⟩ : ∃ k : Nat, p1 = (k : Int) := ⟨p1.toNat, by omega⟩
    obtain ⟨p2, rfl⟩ : ∃ k : Nat, p2 = (k : Int) := ⟨p2.toNat, by omega⟩
    obtain ⟨q1, rfl⟩ : ∃ k : Nat, q1 = (k : Int) := ⟨q1.toNat, by omega⟩
    obtain ⟨q2, rfl⟩ : ∃ k : Nat, q2 = (k : Int) := ⟨q2.toNat, by omega⟩
    have m1 : min (p1 : Int) q1 = ((min p1 q1 : Nat) : Int) := by omega
    have m2 : max (p2 : Int) q2 = ((max p2 q2 : Nat) : Int) := by omega
    rw [m1, m2, Int.toNat_natCast, Int.toNat_natCast]
    obtain ⟨lo, hlo⟩ : ∃ lo, lo = min p1 q1 := ⟨_, rfl⟩
    obtain ⟨hi, hhi⟩ : ∃ hi, hi = max p2 q2 := ⟨_, rfl⟩
    rw [← hlo, ← hhi]
    have hmm : hi ≤ 23 := by omega
    have hlh : lo ≤ hi := by omega
    have HLO := Lib.hid hlo
    have HHI := Lib.hid hhi
    clear hlo hhi
    go_enter Try.func29, Try.ntmps29
    go_wp2_with fail
    rw [← hw0]
    clear hw0
    refine (HSP.out w0 _ HD0.out HL0.out).mono ?_
    rintro e w1 ⟨tv, rfl, hown1, hb1⟩
    have HB1 := Lib.hid hb1
    obtain ⟨tb, toff, tcap, rfl, htb, htc, e0, e1, e2, e3⟩ := two_cells (hown1.isL (by simp))
    obtain ⟨d0, d1, d2, d3⟩ := HF.out w1 hb1
    have hsw : w.heap.size < w1.heap.size := Nat.lt_of_lt_of_le hsz0 hb1.size
    clear hb1 hown1
    clear m1 m2
    have HLA := Lib.hid (fun (V : World) (h : Below w0.heap.size w0 V) => (rlanes_any d lo hi hlh hmm V (HD0.out.then h)).mono (R' := fun e w' => ∃ u, e = .returned u ∧ KI.IsL w' w'.heap.size u (lanesI (frst d) lo (hi + 1 - lo)) ∧ Below w0.heap.size w0 w') (fun e w' ⟨u, he, ho, hb⟩ => ⟨u, he, ho.isL (by rw [lanes_len]; omega), Below.call h hb⟩))
    by_cases c1 : (q1 : Int) < p1
    · by_cases c2 : (p2 : Int) < q2
      · have c1' : decide ((q1 : Int) < p1) = true := decide_eq_true c1
        have c2' : decide ((p2 : Int) < q2) = true := decide_eq_true c2
        have HL' := Lib.hid (show lo = q1 by have := HLO.out; omega)
        have HH' := Lib.hid (show hi = q2 by have := HHI.out; omega)
        go_wp2_with fail
        go_quiet (fail)
        go_wp2_with fail
        go_quiet (fail)
        go_wp2_with fail
        obtain rfl := HL'.out
        obtain rfl := HH'.out
        refine (HLA.out _ (by (repeat (first | exact HB1.out | (with_reducible refine below_drewN ?_ _) | (with_reducible refine Below.st ?_ HB1.out.size) | (with_reducible refine Below.al ?_ _))))).mono ?_
        rintro e w7 ⟨lv, rfl, hil7, hb7⟩
        have HIL7 := Lib.hid hil7
        have HB7 := Lib.hid hb7
        clear hil7 hb7
        go_wp2
        go_ret2
        exact ⟨_, rfl, HIL7.out, Below.call HB0.out HB7.out⟩
      · have c1' : decide ((q1 : Int) < p1) = true := decide_eq_true c1
        have c2' : decide ((p2 : Int) < q2) = false := decide_eq_false c2
        have HL' := Lib.hid (show lo = q1 by have := HLO.out; omega)
        have HH' := Lib.hid (show hi = p2 by have := HHI.out; omega)
        go_wp2_with fail
        go_quiet (fail)
        go_wp2_with fail
        go_quiet (fail)
        go_wp2_with fail
        obtain rfl := HL'.out
        obtain rfl := HH'.out
        refine (HLA.out _ (by (repeat (first | exact HB1.out | (with_reducible refine below_drewN ?_ _) | (with_reducible refine Below.st ?_ HB1.out.size) | (with_reducible refine Below.al ?_ _))))).mono ?_
        rintro e w7 ⟨lv, rfl, hil7, hb7⟩
        have HIL7 := Lib.hid hil7
        have HB7 := Lib.hid hb7
        clear hil7 hb7
        go_wp2
        go_ret2
        exact ⟨_, rfl, HIL7.out, Below.call HB0.out HB7.out⟩
    · by_cases c2 : (p2 : Int) < q2
      · have c1' : decide ((q1 : Int) < p1) = false := decide_eq_false c1
        have c2' : decide ((p2 : Int) < q2) = true := decide_eq_true c2
        have HL' := Lib.hid (show lo = p1 by have := HLO.out; omega)
        have HH' := Lib.hid (show hi = q2 by have := HHI.out; omega)
        go_wp2_with fail
        go_quiet (fail)
        go_wp2_with fail
        go_quiet (fail)
        go_wp2_with fail
        obtain rfl := HL'.out
        obtain rfl := HH'.out
        refine (HLA.out _ (by (repeat (first | exact HB1.out | (with_reducible refine below_drewN ?_ _) | (with_reducible refine Below.st ?_ HB1.out.size) | (with_reducible refine Below.al ?_ _))))).mono ?_
        rintro e w7 ⟨lv, rfl, hil7, hb7⟩
        have HIL7 := Lib.hid hil7
        have HB7 := Lib.hid hb7
        clear hil7 hb7
        go_wp2
        go_ret2
        exact ⟨_, rfl, HIL7.out, Below.call HB0.out HB7.out⟩
      · have c1' : decide ((q1 : Int) < p1) = false := decide_eq_false c1
        have c2' : decide ((p2 : Int) < q2) = false := decide_eq_false c2
        have HL' := Lib.hid (show lo = p1 by have := HLO.out; omega)
        have HH' := Lib.hid (show hi = p2 by have := HHI.out; omega)
        go_wp2_with fail
        go_quiet (fail)
        go_wp2_with fail
        go_quiet (fail)
        go_wp2_with fail
        obtain rfl := HL'.out
        obtain rfl := HH'.out
        refine (HLA.out _ (by (repeat (first | exact HB1.out | (with_reducible refine below_drewN ?_ _) | (with_reducible refine Below.st ?_ HB1.out.size) | (with_reducible refine Below.al ?_ _))))).mono ?_
        rintro e w7 ⟨lv, rfl, hil7, hb7⟩
        have HIL7 := Lib.hid hil7
        have HB7 := Lib.hid hb7
        clear hil7 hb7
        go_wp2
        go_ret2
        exact ⟨_, rfl, HIL7.out, Below.call HB0.out HB7.out⟩
  · rw [HE0.out hz] at HSP
    rw [if_neg hz]
    have hz' : (spsE d [a, b] != 0) = true := by rw [bne_iff_ne]; exact hz
    clear hz HS2 HE0 HGD
    generalize spsE d [a, b] = SE at *
    go_enter Try.func29, Try.ntmps29
    go_wp2_with fail
    rw [← hw0]
    clear hw0
    refine (HSP.out w0 _ HD0.out HL0.out).mono ?_
    rintro e w1 ⟨tv, rfl, _, hb1⟩
    have HB1 := Lib.hid hb1
    clear hb1
    go_wp2
    go_ret2
    exact ⟨_, rfl, Lk.IsL.nil _ _ _ _, Below.call HB0.out HB1.out⟩
end Go.Proofs.Ytlgpnjbhmoomfaa
