/- What all proofs of this seat's statements share: the set-up, and how a list that came in is opened. -/
import Derived.Test.YtmecohdedghiaaaGreatDoorPl16
import Derived.Test.YtmecohdedghiaaaGreatDoorPl15
import Derived.Test.YtmecohdedghiaaaGreatDoorPl12
import Derived.Deep.Cut
import Derived.Test.YtmecohdedghiaaaGreatDoorPl14
import Derived.Test.YtmecohdedghiaaaGreatDoorPl04
import Derived.Test.YtmecohdedghiaaaGreatDoorRows
import Derived.Test.YtmecohdedghiaaaGreatDoorPl01
import Derived.ProofKit
import Derived.OpenShut
import Derived.ShutString
import Derived.ChangeMaps5
import Derived.Deep.Slices
import Derived.Lib.SmallJoins
import Derived.Carry
import Derived.ChangeSlices
namespace Go.Proofs.YtmecohdedghiaaaGreatDoor
open Go.RowKit
theorem mb_fst (l : List Int) : (mbV l).1 = 0 → (mbV l).2 = 0 := by
  unfold mbV
  by_cases h0 : l = []
  · rw [if_pos h0]; intro h; exact absurd h (by decide)
  rw [if_neg h0]
  by_cases h1 : 16 < l.length
  · rw [if_pos h1]; intro h; exact absurd h (by decide)
  rw [if_neg h1]
  by_cases h2 : 0 ≤ twV l
  · rw [if_pos h2]; intro h; exact absurd h (by show ¬ (152 : Int) = 0; decide)
  · rw [if_neg h2]; intro _; rfl
/-- A refusal has an error. -/
theorem ref_fst (d : Dk) (r : Rq) : (refV d r).1 = 0 → (refV d r).2 = 0 := by
  unfold refV
  by_cases hz : zchk d = 0
  · rw [if_neg (by simpa using hz)]
    by_cases hm : mfV r = (0, 0)
    · rw [if_neg (by simpa using hm)]
      cases nmF d r with
      | some x => intro h; exact absurd h (by show ¬ (3 : Int) = 0; decide)
      | none =>
        intro _
        show (lastV r).2 = 0
        unfold lastV
        repeat' split
        all_goals rfl
    · rw [if_pos hm]
      unfold mfV
      repeat' split
      · intro h; exact absurd h (by decide)
      · intro h; exact absurd h (by decide)
      · exact mb_fst _
      · intro _; rfl
  · rw [if_pos hz]; intro h; exact absurd h hz
theorem put_two {p : List Int} (h : Two.Inc p) (a b : Int) : Two.put (Two.put p a) b = Two.mk ([a, b] ++ p) := Two.mk_of (Two.inc_put b (Two.inc_put a h)) fun x => by
  rw [Two.mem_put, Two.mem_put]; simp only [List.mem_append, List.mem_cons, List.not_mem_nil, or_false]; exact ⟨fun h => by rcases h with (h | h) | h <;> simp [h], fun h => by rcases h with (h | h) | h <;> simp [h]⟩
theorem put_one {p : List Int} (h : Two.Inc p) (a : Int) : Two.put p a = Two.mk ([a] ++ p) := Two.mk_of (Two.inc_put a h) fun x => by
  rw [Two.mem_put]; simp only [List.mem_append, List.mem_cons, List.not_mem_nil, or_false]; exact ⟨fun h => h.elim .inr .inl, fun h => h.elim .inr .inl⟩
theorem fld0 (x y : Int) (w : World) : (Instr.field 56 (.agg #[.int .i64 x, .int .i64 y, .int .i64 0, .int .i64 0, .slice none 0 0]) 0).run Tryz.prog w = .ok (.int .i64 x) w := by kernel_rfl
theorem fld1 (x y : Int) (w : World) : (Instr.field 56 (.agg #[.int .i64 x, .int .i64 y, .int .i64 0, .int .i64 0, .slice none 0 0]) 1).run Tryz.prog w = .ok (.int .i64 y) w := by kernel_rfl
set_option maxRecDepth 100000 in
set_option maxHeartbeats 4000000 in
theorem rMust_any (d : Dk) (r : Rq) (w : World) (hd : d.In w w.heap.size) (hr : r.In w w.heap.size) : Calls Tryz.prog 13 #[d.v, r.val] w fun e w' => ∃ v, e = .returned v ∧ KI.IsL w' w'.heap.size v (muV d r) ∧ Below w.heap.size w w' := by
  obtain ⟨w0, hw0⟩ : ∃ w0, w0 = (w.alloc (.cells #[.slice d.bA d.bn d.bc, .slice d.pA d.pn d.pc, .slice d.rA d.rn d.rc, .int .i64 d.arms] 26)).alloc (.cells r.ob 30) := ⟨_, rfl⟩
  have HB0 := Lib.hid (show Below w.heap.size w w0 by rw [hw0]; exact Below.al (Below.al (Below.refl _ _) _) _)
  have HD0 := Lib.hid (hd.then HB0.out)
  have HR0 := Lib.hid (hr.then HB0.out)
  have HS0 := Lib.hid (show w0.heap.size = w.heap.size + 2 by rw [hw0]; simp)
  have HK0 := Lib.hid (show DkAt w0 w.heap.size d by rw [hw0]; exact (Cells4.new w _ _ _ _ _).below (Below.al (Below.refl _ _) _))
  have HQ0 := Lib.hid (show RqAt w0 (w.heap.size + 1) r by
    have h := Cells6.new (w.alloc (.cells #[.slice d.bA d.bn d.bc, .slice d.pA d.pn d.pc, .slice d.rA d.rn d.rc, .int .i64 d.arms] 26)) 30 (.int .i64 r.k) (.slice r.iA r.il.length r.ic) (.int .i64 r.a) (.int .i64 r.b) (.int .i64 r.u) (.int .u64 r.v)
    rw [World.size_alloc] at h
    rw [hw0]; exact h)
  have HCK := Lib.hid (rcheck15_any d r w0 HD0.out HR0.out)
  have HMU := Lib.hid (show muV d r = if refV d r = (0, 0) then muL d r else [] from rfl)
  have HML := Lib.hid (show muL d r = if r.k = 4 then Two.mk ([r.a, r.b] ++ pathV d r.a r.b) else if r.k = 5 ∨ r.k = 6 ∨ r.k = 7 then Two.mk ([r.a] ++ setV d [r.a]) else if r.k = 2 then Two.mk r.il else [] from rfl)
  have HLL := Lib.hid (fun h : refV d r = (0, 0) => mf_len (mf_0 h))
  have HE0 := Lib.hid (fun h : refV d r = (0, 0) => h)
  have HR1 := Lib.hid (ref_fst d r)
  have HPI := Lib.hid (path_inc d r.a r.b)
  have HPN := Lib.hid (path_len d hd r.a r.b)
  have HSG := Lib.hid (fold_good d (spsL d [r.a]) (sps_good d hd [r.a]))
  have HSN := Lib.hid (show (setV d [r.a]).length ≤ 24 from fold_len d (spsL d [r.a]) (sps_good d hd [r.a]))
  have HPA := Lib.hid (fun w h => rpath_any d r.a r.b hr.a hr.b w h)
  have HNE := Lib.hid (fun v w h h1 => rneeds_any d v [r.a] w h h1 (by simp))
  have HFA := Lib.hid hr.a
  have HFB := Lib.hid hr.b
  obtain ⟨⟨V1, V2⟩, hV⟩ : ∃ V, refV d r = V := ⟨_, rfl⟩
  rw [hV] at HCK HMU HLL HR1
  obtain ⟨M, hM⟩ : ∃ M, muV d r = M := ⟨_, rfl⟩
  rw [hM] at HMU ⊢
  unfold rsv at HCK
  dsimp only at HCK HR1
  have hfd := fld0
  clear hd hr hV hM HE0
  by_cases h : V1 = 0
  case neg =>
    have HMV := Lib.hid (show M = [] by rw [HMU.out, if_neg (by intro e; injection e with e _; exact h e)])
    have h' : (V1 != 0) = true := by simpa using h
    clear h
    go_enter Tryz.func13, Tryz.ntmps13
    go_wp2_with fail
    rw [← hw0]
    clear hw0
    refine HCK.out.mono ?_
    rintro e w1 ⟨rfl, hb1⟩
    go_wp2
    go_ret
    exact ⟨_, rfl, by rw [HMV.out]; exact Lk.IsL.nil _ _ _ _, Below.call HB0.out hb1⟩
  subst h
  have hV2 := HR1.out rfl
  subst hV2
  have HMV := Lib.hid (show M = if r.k = 4 then Two.mk ([r.a, r.b] ++ pathV d r.a r.b) else if r.k = 5 ∨ r.k = 6 ∨ r.k = 7 then Two.mk ([r.a] ++ setV d [r.a]) else if r.k = 2 then Two.mk r.il else [] by rw [HMU.out, if_pos rfl, HML.out])
  have HL := Lib.hid (HLL.out rfl)
  have hk : ((r.k == 2) = true) ∨ ((r.k == 2) = false ∧ (r.k == 4) = true) ∨ ((r.k == 2) = false ∧ (r.k == 4) = false ∧ ((r.k == 5) = true ∨ ((r.k == 5) = false ∧ ((r.k == 6) = true ∨ ((r.k == 6) = false ∧ (r.k == 7) = true))))) ∨ ((r.k == 2) = false ∧ (r.k == 4) = false ∧ (r.k == 5) = false ∧ (r.k == 6) = false ∧ (r.k == 7) = false) := by
    simp only [kEq, decide_eq_true_eq, decide_eq_false_iff_not]; omega
  clear HMU HML HLL HR1
  go_enter Tryz.func13, Tryz.ntmps13
  go_wp2_with fail
  rw [← hw0]
  clear hw0
  refine HCK.out.mono ?_
  rintro e w1 ⟨rfl, hb1⟩
  have HB1 := Lib.hid hb1
  obtain ⟨q0, q1, q2, q3, q4, q5, -⟩ := HQ0.out.below hb1
  obtain ⟨d0, d1, d2, d3, -⟩ := HK0.out.below hb1
  clear hb1
  rcases hk with k2 | ⟨k2, k4⟩ | ⟨k2, k4, hk⟩ | ⟨k2, k4, k5, k6, k7⟩
  · have HM2 := Lib.hid (show M = Two.mk r.il by
      simp only [kEq, decide_eq_true_eq] at k2
      rw [HMV.out, if_neg (by omega), if_neg (by omega), if_pos k2])
    go_wp2_with fail
    refine (Two.rfrom_any _ r.il w1 (two_of (HR0.out.then HB1.out).l) (by have := HL.out; omega)).mono ?_
    rintro e w2 ⟨v, rfl, hv, hb2⟩
    go_wp2
    go_ret
    exact ⟨_, rfl, by rw [HM2.out]; exact of_two hv, Below.call HB0.out (Below.call HB1.out hb2)⟩
  · have HM2 := Lib.hid (show M = Two.put (Two.put (pathV d r.a r.b) r.a) r.b by
      simp only [kEq, decide_eq_true_eq, decide_eq_false_iff_not] at k2 k4
      rw [HMV.out, if_pos k4, put_two HPI.out])
    go_wp2_with fail
    refine (HPA.out w1 (HD0.out.then HB1.out)).mono ?_
    rintro e w2 ⟨lv, rfl, hlv, hb2⟩
    have HB2 := Lib.hid (Below.call HB1.out hb2)
    have HLV := Lib.hid hlv
    clear q0 q1 q2 q3 q4 q5 d0 d1 d2 d3
    obtain ⟨q0, q1, q2, q3, q4, q5, -⟩ := HQ0.out.below HB2.out
    clear hlv hb2
    go_wp2_with fail
    refine wp_region_held_drew (S := fun w' => w'.cell? ⟨w.heap.size + 1, 2, none⟩ = some (.int .i64 r.a) ∧ w'.cell? ⟨w.heap.size + 1, 3, none⟩ = some (.int .i64 r.b)) (by kernel_rfl) ?_ (fun hHeld => ?_)
    · exact ⟨q2, q3⟩
    have bw := below_drewN (Below.refl w2.heap.size w2) 1
    have HLY := Lib.hid (show KI.IsL w2.drew w2.drew.heap.size lv (pathV d r.a r.b) from HLV.out)
    have HBY := Lib.hid (show Below w0.heap.size w0 w2.drew from below_drewN HB2.out 1)
    clear bw
    generalize w2.drew = wy at *
    refine wpAnyH_take (i := 0) (oi := ⟨some 32, _, _, _, _, _⟩) (v := ?_) rfl (by kernel_rfl) (by kernel_rfl) (by kernel_rfl) (fun _ _ _ h => h) (Or.inl ⟨by kernel_rfl, ?_⟩) (by assumption) ?_
    rotate_left 1
    · ((intro w hSw; (try dsimp only at hSw); go_simp) <;> (try with_reducible rfl))
    (try simp only [Act.put, List.setIfInBounds_toArray, List.set_cons_zero, List.set_cons_succ])
    refine wpAnyH_take (i := 1) (oi := ⟨some 33, _, _, _, _, _⟩) (v := ?_) rfl (by kernel_rfl) (by kernel_rfl) (by kernel_rfl) (fun _ _ _ h => h) (Or.inl ⟨by kernel_rfl, ?_⟩) (by assumption) ?_
    rotate_left 1
    · ((intro w hSw; (try dsimp only at hSw); go_simp) <;> (try with_reducible rfl))
    (try simp only [Act.put, List.setIfInBounds_toArray, List.set_cons_zero, List.set_cons_succ])
    refine wpAnyH_take (i := 2) (oi := ⟨some 34, _, _, _, _, _⟩) (v := ?_) rfl (by kernel_rfl) (by kernel_rfl) (by kernel_rfl) (fun _ _ _ h => h) (Or.inl ⟨by kernel_rfl, ?_⟩) (by assumption) ?_
    rotate_left 1
    · ((intro w hSw; (try dsimp only at hSw); go_simp) <;> (try with_reducible rfl))
    (try simp only [Act.put, List.setIfInBounds_toArray, List.set_cons_zero, List.set_cons_succ])
    refine wpAnyH_take (i := 4) (oi := ⟨some 36, _, _, _, _, _⟩) (v := ?_) rfl (by kernel_rfl) (by kernel_rfl) (by kernel_rfl) (fun _ _ _ h => h) (Or.inl ⟨by kernel_rfl, ?_⟩) (by assumption) ?_
    rotate_left 1
    · ((intro w hSw; (try dsimp only at hSw); go_simp) <;> (try with_reducible rfl))
    (try simp only [Act.put, List.setIfInBounds_toArray, List.set_cons_zero, List.set_cons_succ])
    refine wpAnyH_take (i := 5) (oi := ⟨some 37, _, _, _, _, _⟩) (v := ?_) rfl (by kernel_rfl) (by kernel_rfl) (by kernel_rfl) (fun _ _ _ h => h) (Or.inl ⟨by kernel_rfl, ?_⟩) (by assumption) ?_
    rotate_left 1
    · ((intro w hSw; (try dsimp only at hSw); go_simp) <;> (try with_reducible rfl))
    (try simp only [Act.put, List.setIfInBounds_toArray, List.set_cons_zero, List.set_cons_succ])
    refine wpAnyH_ready (rs := [3]) (by kernel_rfl) (by simp) ?_
    refine AllReadyH.cons (o := ⟨some 35, _, _, _, _, _⟩) rfl (fun K hK => ?_) AllReadyH.nil
    go_simp
    refine (Two.put_any _ (pathV d r.a r.b) r.a HFA.out wy (two_of HLY.out) (by have := HPN.out; omega)).mono ?_
    rintro e w3 ⟨v3, rfl, hv3, hb3⟩
    have HV3 := Lib.hid hv3
    have HB3 := Lib.hid (Below.call HBY.out hb3)
    have hh := And.intro (keep_cell hb3 hHeld.1) (keep_cell hb3 hHeld.2)
    clear hv3 hb3 hHeld
    go_wp2_with fail
    refine hK.out _ _ hh (fun hHeld => ?_)
    clear hK K
    clear hh
    (try simp only [Act.put, List.setIfInBounds_toArray, List.set_cons_zero, List.set_cons_succ])
    refine wpAnyH_ready (rs := [6]) (by kernel_rfl) (by simp) ?_
    refine AllReadyH.cons (o := ⟨some 38, _, _, _, _, _⟩) rfl (fun K hK => ?_) AllReadyH.nil
    go_simp
    refine (Two.put_any _ (Two.put (pathV d r.a r.b) r.a) r.b HFB.out w3 HV3.out (by have := HPN.out; have := Two.put_len (pathV d r.a r.b) r.a; omega)).mono ?_
    rintro e w4 ⟨v4, rfl, hv4, hb4⟩
    have HV4 := Lib.hid hv4
    have HB4 := Lib.hid (Below.call HB3.out hb4)
    have hh := And.intro (keep_cell hb4 hHeld.1) (keep_cell hb4 hHeld.2)
    clear hv4 hb4 hHeld
    go_wp2_with fail
    refine hK.out _ _ hh (fun hHeld => ?_)
    clear hK K
    clear hh
    (try simp only [Act.put, List.setIfInBounds_toArray, List.set_cons_zero, List.set_cons_succ])
    refine wpAnyH_take (i := 7) (oi := ⟨some 4, _, _, _, _, _⟩) (v := ?_) rfl (by kernel_rfl) (by kernel_rfl) (by kernel_rfl) (fun _ _ _ h => h) (Or.inl ⟨by kernel_rfl, ?_⟩) (by assumption) ?_
    rotate_left 1
    · ((intro w hSw; (try dsimp only at hSw); go_simp) <;> (try with_reducible rfl))
    (try simp only [Act.put, List.setIfInBounds_toArray, List.set_cons_zero, List.set_cons_succ])
    refine wpAnyH_done (by kernel_rfl) ?_ _
    go_wp2
    go_ret
    exact ⟨_, rfl, by rw [HM2.out]; exact of_two HV4.out, Below.call HB0.out HB4.out⟩
  · have HM2 := Lib.hid (show M = Two.put (setV d [r.a]) r.a by
      have hk2 : r.k ≠ 4 ∧ (r.k = 5 ∨ r.k = 6 ∨ r.k = 7) := by
        simp only [kEq, decide_eq_true_eq, decide_eq_false_iff_not] at k4 hk; omega
      rw [HMV.out, if_neg hk2.1, if_pos hk2.2]; exact (put_one (p := setV d [r.a]) HSG.out.1 r.a).symm)
    rcases hk with k5 | ⟨k5, k6 | ⟨k6, k7⟩⟩
    all_goals
      go_wp2_with fail
      obtain ⟨wa, hwa⟩ : ∃ wa, wa = w1.alloc (.cells #[.int .i64 r.a] 3) := ⟨_, rfl⟩
      have HLA := Lib.hid (show KI.IsL wa wa.heap.size (.slice (some ⟨w1.heap.size, 0, none⟩) 1 1) [r.a] by
        rw [hwa, World.size_alloc]
        exact Lk.IsL.lit (K := KI) w1 r.a #[.int .i64 r.a] HFA.out rfl w1.heap.size rfl)
      have HBA := Lib.hid (show Below w0.heap.size w0 wa by rw [hwa]; exact Below.al HB1.out _)
      rw [← hwa]
      clear hwa
      refine (HNE.out _ wa (HD0.out.then HBA.out) HLA.out).mono ?_
      rintro e w2 ⟨lv, rfl, hlv, hb2⟩
      have HB2 := Lib.hid (Below.call HBA.out hb2)
      have HLV := Lib.hid hlv
      clear q0 q1 q2 q3 q4 q5 d0 d1 d2 d3
      obtain ⟨q0, q1, q2, q3, q4, q5, -⟩ := HQ0.out.below HB2.out
      clear hlv hb2
      go_wp2_with fail
      refine (Two.put_any _ (setV d [r.a]) r.a HFA.out w2 (two_of HLV.out) (by have := HSN.out; omega)).mono ?_
      rintro e w3 ⟨nv, rfl, hnv, hb3⟩
      go_wp2
      go_ret
      exact ⟨_, rfl, by rw [HM2.out]; exact of_two hnv, Below.call HB0.out (Below.call HB2.out hb3)⟩
  · have HM2 := Lib.hid (show M = [] by
      simp only [kEq, decide_eq_false_iff_not] at k4 k5 k6 k7 k2
      rw [HMV.out, if_neg k4, if_neg (by omega), if_neg k2])
    go_wp2
    go_ret
    exact ⟨_, rfl, by rw [HM2.out]; exact Lk.IsL.nil _ _ _ _, Below.call HB0.out HB1.out⟩
end Go.Proofs.YtmecohdedghiaaaGreatDoor
namespace Go.Proofs.YtmecohdedghiaaaGreatDoor
open Go.RowKit
theorem iw_isP (d : Dk) (k id : Int) (hk : k ≠ 0) : iwP d k id = isP d k id := by
  unfold iwP isP
  rw [decide_eq_false hk, Bool.false_or]
theorem lw_iw (A P R S : Option Addr) (id : Int) : iwP (lwD A P R S) 1 id = decide (0 ≤ id ∧ id < 2) := by
  rw [iw_isP _ _ _ (by decide), (isP_eq _ (lw_chk A P R S) id).1, lw_well]
  rfl
def lq1 : Rq := ⟨5, none, 0, [], 0, 0, 0, 4607182418800017408⟩
def lq2 : Rq := ⟨6, none, 0, [], 1, 0, 0, 9221120237041090561⟩
def lq3 : Rq := ⟨9, none, 0, [], 1, 0, 0, 0⟩
def lq4 (a : Option Addr) : Rq := ⟨1, a, 2, [1, 1], 0, 0, 0, 0⟩
theorem lw_v1 : voV 4607182418800017408 = 1000 ∧ voE 4607182418800017408 = 0 := by decide +kernel
theorem lw_v2 : voE 9221120237041090561 = 20 := by decide +kernel
theorem lw_r1 (A P R S : Option Addr) : refV (lwD A P R S) lq1 = (0, 0) := by
  rw [ref_go (lw_z A P R S) (by decide) (by decide) (by decide)]
  have h : nmF (lwD A P R S) lq1 = none := by
    unfold nmF
    rw [show nmL lq1 = [(1, 0)] from rfl, List.find?_cons, lw_iw]
    rfl
  rw [h]
  show (if (5 : Int) = 4 ∧ (0 : Int) = 0 then ((1 : Int), (0 : Int)) else if (5 : Int) = 4 ∨ (5 : Int) = 5 ∨ (5 : Int) = 6 then (voE 4607182418800017408, 0) else (0, 0)) = _
  rw [lw_v1.2]
  decide
theorem lw_r2 (A P R S : Option Addr) : refV (lwD A P R S) lq2 = (20, 0) := by
  rw [ref_go (lw_z A P R S) (by decide) (by decide) (by decide)]
  have h : nmF (lwD A P R S) lq2 = none := by
    unfold nmF
    rw [show nmL lq2 = [(1, 1)] from rfl, List.find?_cons, lw_iw]
    rfl
  rw [h]
  show (if (6 : Int) = 4 ∧ (1 : Int) = 0 then ((1 : Int), (0 : Int)) else if (6 : Int) = 4 ∨ (6 : Int) = 5 ∨ (6 : Int) = 6 then (voE 9221120237041090561, 0) else (0, 0)) = _
  rw [lw_v2]
  decide
theorem lw_r3 (A P R S : Option Addr) : refV (lwD A P R S) lq3 = (0, 0) := by
  rw [ref_go (lw_z A P R S) (by decide) (by decide) (by decide)]
  have h : nmF (lwD A P R S) lq3 = none := by
    unfold nmF
    rw [show nmL lq3 = [(1, 1)] from rfl, List.find?_cons, lw_iw]
    rfl
  rw [h]
  rfl
theorem lw_r4 (A P R S a : Option Addr) : refV (lwD A P R S) (lq4 a) = (152, 1) := by
  have ht : twV [1, 1] = 1 := twV_eq (Or.inr ⟨1, by decide, rfl, by decide, fun j hj => by
    cases j with
    | zero => decide
    | succ n => omega⟩)
  have hm : mfV (lq4 a) = (152, 1) := by
    unfold mfV
    rw [if_neg (by show ¬ ((1 : Int) < 1 ∨ 10 < (1 : Int)); decide), if_neg (by simp [unO, lq4, unN, unA, unB, unU, unV]), if_pos (.inl rfl)]
    show mbV [1, 1] = _
    unfold mbV
    rw [if_neg (by decide), if_neg (by decide), ht]
    rfl
  unfold refV
  rw [if_neg (by simpa using lw_z A P R S), hm, if_pos (by decide)]
theorem lw_mu (A P R S : Option Addr) : muV (lwD A P R S) lq1 = [0, 3, 4] := by
  unfold muV
  rw [if_pos (lw_r1 A P R S)]
  show Two.mk ([0] ++ setV (lwD A P R S) [0]) = _
  rw [lw_set]
  rfl
theorem lw_lk (A P R S : Option Addr) : lkW (lwD A P R S) lq3 [] (-1) = [1] := by
  unfold lkW
  rw [if_pos (lw_r3 A P R S)]
  rfl
set_option maxRecDepth 100000 in
set_option maxHeartbeats 4000000 in
theorem lives15 (w : World) (hT : Nn.Tab w) : Calls Tryz.prog 10 #[] w fun e w' => e = .returned (.bool true) ∧ Below w.heap.size w w' := by
  have HT := Lib.hid hT
  clear hT
  have hfd0 := fld0
  have hfd1 := fld1
  go_enter Tryz.func10, Tryz.ntmps10
  go_wp2_with fail
  refine (little_any w).mono ?_
  rintro e w1 ⟨A, P, R, S, rfl, hin, hb1⟩
  obtain ⟨d, hd⟩ : ∃ d, d = lwD A P R S := ⟨_, rfl⟩
  have HV1 := Lib.hid (show refV d lq1 = (0, 0) by rw [hd]; exact lw_r1 A P R S)
  have HV2 := Lib.hid (show refV d lq2 = (20, 0) by rw [hd]; exact lw_r2 A P R S)
  have HV4 := Lib.hid (fun a => show refV d (lq4 a) = (152, 1) by rw [hd]; exact lw_r4 A P R S a)
  have HMU := Lib.hid (show muV d lq1 = [0, 3, 4] by rw [hd]; exact lw_mu A P R S)
  have HLK := Lib.hid (show lkW d lq3 [] (-1) = [1] by rw [hd]; exact lw_lk A P R S)
  rw [← hd] at hin ⊢
  clear hd
  obtain ⟨w2, hw2⟩ : ∃ w2, w2 = (w1.alloc (.cells #[.slice d.bA d.bn d.bc, .slice d.pA d.pn d.pc, .slice d.rA d.rn d.rc, .int .i64 d.arms] 26)).alloc (.cells #[.int .i64 5, .slice none 0 0, .int .i64 0, .int .i64 0, .int .i64 0, .int .u64 4607182418800017408] 30) := ⟨_, rfl⟩
  have hb2 : Below w1.heap.size w1 w2 := by rw [hw2]; exact Below.al (Below.al (Below.refl _ _) _) _
  have HB2 := Lib.hid (Below.call hb1 hb2)
  have HD2 := Lib.hid (hin.then hb2)
  have HK2 := Lib.hid (show DkAt w2 w1.heap.size d by rw [hw2]; exact (Cells4.new w1 _ _ _ _ _).below (Below.al (Below.refl _ _) _))
  have HQ2 := Lib.hid (show Cells6 w2 (w1.heap.size + 1) (.int .i64 5) (.slice none 0 0) (.int .i64 0) (.int .i64 0) (.int .i64 0) (.int .u64 4607182418800017408) by
    have h := Cells6.new (w1.alloc (.cells #[.slice d.bA d.bn d.bc, .slice d.pA d.pn d.pc, .slice d.rA d.rn d.rc, .int .i64 d.arms] 26)) 30 (.int .i64 5) (.slice none 0 0) (.int .i64 0) (.int .i64 0) (.int .i64 0) (.int .u64 4607182418800017408)
    rw [World.size_alloc] at h
    rw [hw2]; exact h)
  have HT2 := Lib.hid (HT.out.below HB2.out)
  have HI1 := Lib.hid (fun (V : World) => show lq1.In V V.heap.size from ⟨Lk.IsL.nil _ _ _ _, by decide, by decide, by decide, by decide, by decide⟩)
  have HI2 := Lib.hid (fun (V : World) => show lq2.In V V.heap.size from ⟨Lk.IsL.nil _ _ _ _, by decide, by decide, by decide, by decide, by decide⟩)
  have HI3 := Lib.hid (fun (V : World) => show lq3.In V V.heap.size from ⟨Lk.IsL.nil _ _ _ _, by decide, by decide, by decide, by decide, by decide⟩)
  have C1 := Lib.hid (fun (V : World) (h : Below w2.heap.size w2 V) => show Calls Tryz.prog 38 #[.agg #[.int .i64 5, .slice none 0 0, .int .i64 0, .int .i64 0, .int .i64 0, .int .u64 4607182418800017408]] V fun e w' => e = .returned (.tuple #[.int .i64 1000, .int .i64 0]) ∧ Below V.heap.size V w' by
    have h := volume_any lq1 V (by decide) (HT2.out.below h)
    rw [show lq1.v = 4607182418800017408 from rfl, lw_v1.1, lw_v1.2] at h
    exact h)
  have C2 := Lib.hid (fun (V : World) (h : Below w2.heap.size w2 V) => show Calls Tryz.prog 12 #[d.v, .agg #[.int .i64 5, .slice none 0 0, .int .i64 0, .int .i64 0, .int .i64 0, .int .u64 4607182418800017408]] V fun e w' => ∃ v, e = .returned v ∧ KI.IsL w' w'.heap.size v [0, 3, 4] ∧ Below V.heap.size V w' by
    have h := Must_any d lq1 V (HD2.out.then h) (HI1.out V) (HT2.out.below h)
    rw [HMU.out] at h
    exact h)
  have C3 := Lib.hid (fun (V : World) (h : Below w2.heap.size w2 V) => show Calls Tryz.prog 39 #[d.v, .agg #[.int .i64 5, .slice none 0 0, .int .i64 0, .int .i64 0, .int .i64 0, .int .u64 4607182418800017408]] V fun e w' => e = .returned (rsv (0, 0)) ∧ Below V.heap.size V w' by
    have h := checkW_any d lq1 V (HD2.out.then h) (HI1.out V) (HT2.out.below h)
    rw [HV1.out] at h
    exact h)
  have C4 := Lib.hid (fun (V : World) (h : Below w2.heap.size w2 V) => show Calls Tryz.prog 39 #[d.v, .agg #[.int .i64 6, .slice none 0 0, .int .i64 1, .int .i64 0, .int .i64 0, .int .u64 9221120237041090561]] V fun e w' => e = .returned (rsv (20, 0)) ∧ Below V.heap.size V w' by
    have h := checkW_any d lq2 V (HD2.out.then h) (HI2.out V) (HT2.out.below h)
    rw [HV2.out] at h
    exact h)
  have C5 := Lib.hid (fun (V : World) (h : Below w2.heap.size w2 V) => show Calls Tryz.prog 14 #[d.v, .agg #[.int .i64 9, .slice none 0 0, .int .i64 1, .int .i64 0, .int .i64 0, .int .u64 0], .slice none 0 0, .int .i64 (-1)] V fun e w' => ∃ v, e = .returned v ∧ KI.IsL w' w'.heap.size v [1] ∧ Below V.heap.size V w' by
    have h := locks_any d lq3 (.slice none 0 0) [] (-1) V (HD2.out.then h) (HI3.out V) (HT2.out.below h) (Lk.IsL.nil _ _ _ _) (by simp) (by decide)
    rw [HLK.out] at h
    exact h)
  have C6 := Lib.hid (fun (a : Option Addr) (V : World) (h : Below w2.heap.size w2 V) (hl : KI.IsL V V.heap.size (.slice a 2 2) [1, 1]) => show Calls Tryz.prog 39 #[d.v, .agg #[.int .i64 1, .slice a 2 2, .int .i64 0, .int .i64 0, .int .i64 0, .int .u64 0]] V fun e w' => e = .returned (rsv (152, 1)) ∧ Below V.heap.size V w' by
    have h := checkW_any d (lq4 a) V (HD2.out.then h) ⟨hl, by show fits 1; decide, by show fits 0; decide, by show fits 0; decide, by show fits 0; decide, by show (0 : Nat) < _; decide⟩ (HT2.out.below h)
    rw [HV4.out] at h
    exact h)
  clear hin hb1 hb2
  unfold rsv at C3 C4 C6
  dsimp only at *
  go_upto_region 3 with (fail)
  rw [← hw2]
  clear hw2
  obtain ⟨q0, q1, q2, q3, q4, q5, -⟩ := HQ2.out
  go_wp2_with fail
  refine (C1.out w2 (Below.refl _ _)).mono ?_
  rintro e w3 ⟨rfl, hb3⟩
  have HB3 := Lib.hid hb3
  clear hb3 q0 q1 q2 q3 q4 q5
  obtain ⟨q0, q1, q2, q3, q4, q5, -⟩ := HQ2.out.below HB3.out
  obtain ⟨d0, d1, d2, d3, -⟩ := HK2.out.below HB3.out
  go_wp2_with fail
  refine (C2.out w3 HB3.out).mono ?_
  rintro e w4 ⟨mv, rfl, hmv, hb4⟩
  have HB4 := Lib.hid (Below.call HB3.out hb4)
  have HMV := Lib.hid hmv
  clear hb4 hmv q0 q1 q2 q3 q4 q5 d0 d1 d2 d3
  obtain ⟨q0, q1, q2, q3, q4, q5, -⟩ := HQ2.out.below HB4.out
  obtain ⟨d0, d1, d2, d3, -⟩ := HK2.out.below HB4.out
  go_wp2_with fail
  refine (C3.out w4 HB4.out).mono ?_
  rintro e w5 ⟨rfl, hb5⟩
  have HB5 := Lib.hid (Below.call HB4.out hb5)
  have HMV5 := Lib.hid (HMV.out.then hb5)
  clear hb5 q0 q1 q2 q3 q4 q5 d0 d1 d2 d3
  have HSM := Lib.hid (same15_any (0, 0) (0, 0) w5)
  unfold rsv at HSM
  dsimp only at HSM
  rw [decide_eq_true rfl] at HSM
  go_wp2_with fail
  refine HSM.out.mono ?_
  rintro e w6 ⟨rfl, hb6⟩
  have HB6 := Lib.hid (Below.call HB5.out hb6)
  have HMV6 := Lib.hid (HMV5.out.then hb6)
  clear hb6
  go_wp2_with fail
  obtain ⟨w7, hw7⟩ : ∃ w7, w7 = w6.alloc (.cells #[.int .i64 0, .int .i64 3, .int .i64 4] 3) := ⟨_, rfl⟩
  have HL7 := Lib.hid (show KI.IsL w7 w7.heap.size (.slice (some ⟨w6.heap.size, 0, none⟩) 3 3) [0, 3, 4] by
    rw [hw7, World.size_alloc]
    exact Lk.IsL.lits (K := KI) w6 [0, 3, 4] #[.int .i64 0, .int .i64 3, .int .i64 4] (by intro x hx; simp at hx; show fits x; unfold fits; omega) rfl (by simp) w6.heap.size rfl)
  have hba := Below.al (Below.refl w6.heap.size w6) (.cells #[.int .i64 0, .int .i64 3, .int .i64 4] 3)
  rw [← hw7] at hba ⊢
  have HB7 := Lib.hid (Below.call HB6.out hba)
  have HMV7 := Lib.hid (HMV6.out.then hba)
  clear hw7 hba
  refine (Two.same_any _ _ [0, 3, 4] [0, 3, 4] w7 (two_of HMV7.out) (two_of HL7.out)).mono ?_
  rintro e w8 ⟨rfl, dq, hdq⟩
  have HB8 := Lib.hid (show Below w2.heap.size w2 w8 by rw [hdq]; exact below_drewN HB7.out dq)
  clear hdq
  simp only [decide_true]
  obtain ⟨d0, d1, d2, d3, -⟩ := HK2.out.below HB8.out
  go_wp2_with fail
  refine (C4.out w8 HB8.out).mono ?_
  rintro e w9 ⟨rfl, hb9⟩
  have HB9 := Lib.hid (Below.call HB8.out hb9)
  clear hb9 d0 d1 d2 d3
  obtain ⟨d0, d1, d2, d3, -⟩ := HK2.out.below HB9.out
  go_wp2_with fail
  refine (C5.out w9 HB9.out).mono ?_
  rintro e wa ⟨lv, rfl, hlv, hba⟩
  have HBA := Lib.hid (Below.call HB9.out hba)
  have HLV := Lib.hid hlv
  clear hba hlv d0 d1 d2 d3
  go_wp2_with fail
  obtain ⟨wb, hwb⟩ : ∃ wb, wb = wa.alloc (.cells #[.int .i64 1] 3) := ⟨_, rfl⟩
  have HLB := Lib.hid (show KI.IsL wb wb.heap.size (.slice (some ⟨wa.heap.size, 0, none⟩) 1 1) [1] by
    rw [hwb, World.size_alloc]
    exact Lk.IsL.lit (K := KI) wa 1 #[.int .i64 1] (show fits 1 by decide) rfl wa.heap.size rfl)
  have hbb := Below.al (Below.refl wa.heap.size wa) (.cells #[.int .i64 1] 3)
  rw [← hwb] at hbb ⊢
  have HBB := Lib.hid (Below.call HBA.out hbb)
  have HLVB := Lib.hid (HLV.out.then hbb)
  clear hwb hbb
  refine (Two.same_any _ _ [1] [1] wb (two_of HLVB.out) (two_of HLB.out)).mono ?_
  rintro e wc ⟨rfl, dr, hdr⟩
  have HBC := Lib.hid (show Below w2.heap.size w2 wc by rw [hdr]; exact below_drewN HBB.out dr)
  clear hdr
  simp only [decide_true]
  obtain ⟨d0, d1, d2, d3, -⟩ := HK2.out.below HBC.out
  go_wp2_with fail
  obtain ⟨wd, hwd⟩ : ∃ wd, wd = wc.alloc (.cells #[.int .i64 1, .int .i64 1] 3) := ⟨_, rfl⟩
  have HLD := Lib.hid (show KI.IsL wd wd.heap.size (.slice (some ⟨wc.heap.size, 0, none⟩) 2 2) [1, 1] by
    rw [hwd, World.size_alloc]
    exact Lk.IsL.lits (K := KI) wc [1, 1] #[.int .i64 1, .int .i64 1] (by intro x hx; simp at hx; show fits x; unfold fits; omega) rfl (by simp) wc.heap.size rfl)
  have hbd := Below.al (Below.refl wc.heap.size wc) (.cells #[.int .i64 1, .int .i64 1] 3)
  rw [← hwd] at hbd ⊢
  have HBD := Lib.hid (Below.call HBC.out hbd)
  clear hwd hbd
  refine (C6.out _ wd HBD.out HLD.out).mono ?_
  rintro e we ⟨rfl, hbe⟩
  have HBE := Lib.hid (Below.call HB2.out (Below.call HBD.out hbe))
  clear hbe d0 d1 d2 d3
  go_wp2
  go_ret
  exact ⟨rfl, HBE.out⟩
end Go.Proofs.YtmecohdedghiaaaGreatDoor
namespace Go.Proofs.YtmecohdedghiaaaGreatDoor
open Go.RowKit
def large15 (d : Dk) (r : Rq) : Bool := largeB d || decide (100 < r.il.length)
set_option maxRecDepth 100000 in
set_option maxHeartbeats 4000000 in
theorem large15_any (d : Dk) (r : Rq) (w : World) (hd : d.In w w.heap.size) (hr : r.In w w.heap.size) : Calls Tryz.prog 9 #[d.v, r.val] w fun e w' => e = .returned (.bool (large15 d r)) ∧ Below w.heap.size w w' := by
  obtain ⟨w0, hw0⟩ : ∃ w0, w0 = (w.alloc (.cells #[.slice d.bA d.bn d.bc, .slice d.pA d.pn d.pc, .slice d.rA d.rn d.rc, .int .i64 d.arms] 26)).alloc (.cells r.ob 30) := ⟨_, rfl⟩
  have HB0 := Lib.hid (show Below w.heap.size w w0 by rw [hw0]; exact Below.al (Below.al (Below.refl _ _) _) _)
  have HD0 := Lib.hid (hd.then HB0.out)
  have HR0 := Lib.hid (hr.then HB0.out)
  have HS0 := Lib.hid (show w0.heap.size = w.heap.size + 2 by rw [hw0]; simp)
  have HK0 := Lib.hid (show DkAt w0 w.heap.size d by rw [hw0]; exact (Cells4.new w _ _ _ _ _).below (Below.al (Below.refl _ _) _))
  have HQ0 := Lib.hid (show RqAt w0 (w.heap.size + 1) r by
    have h := Cells6.new (w.alloc (.cells #[.slice d.bA d.bn d.bc, .slice d.pA d.pn d.pc, .slice d.rA d.rn d.rc, .int .i64 d.arms] 26)) 30 (.int .i64 r.k) (.slice r.iA r.il.length r.ic) (.int .i64 r.a) (.int .i64 r.b) (.int .i64 r.u) (.int .u64 r.v)
    rw [World.size_alloc] at h
    rw [hw0]; exact h)
  have HLG := Lib.hid (large_any d w0 HD0.out)
  have HLN := Lib.hid hr.l.2.2
  have hV : large15 d r = (largeB d || decide (100 < r.il.length)) := rfl
  rw [hV]
  clear hd hr hV
  generalize largeB d = lb at *
  cases lb
  · by_cases h : 100 < r.il.length
    all_goals
      go_enter Tryz.func9, Tryz.ntmps9
      go_wp2_with fail
      rw [← hw0]
      clear hw0
      refine HLG.out.mono ?_
      rintro e w1 ⟨rfl, hb1⟩
      have HB1 := Lib.hid (Below.call HB0.out hb1)
      obtain ⟨q0, q1, q2, q3, q4, q5, -⟩ := HQ0.out.below hb1
      clear hb1
      go_wp2
      go_ret
      exact ⟨ret_b (by simp [h]; omega), HB1.out⟩
  · go_enter Tryz.func9, Tryz.ntmps9
    go_wp2_with fail
    rw [← hw0]
    clear hw0
    refine HLG.out.mono ?_
    rintro e w1 ⟨rfl, hb1⟩
    go_wp2
    go_ret
    exact ⟨ret_b (by simp), Below.call HB0.out hb1⟩
theorem sameB (v u : Value) (xs ys : List Int) (w : World) (h : Two.IsL w w.heap.size v xs) (hy : Two.IsL w w.heap.size u ys) : Calls Tryz.prog 11 #[v, u] w fun e w' => e = .returned (.bool (decide (xs = ys))) ∧ Below w.heap.size w w' :=
  (Two.same_any v u xs ys w h hy).mono fun _ _ ⟨h1, d, h2⟩ => ⟨h1, by rw [h2]; exact below_drewN (Below.refl _ _) d⟩
end Go.Proofs.YtmecohdedghiaaaGreatDoor
namespace Go.Proofs.YtmecohdedghiaaaGreatDoor
open Go.RowKit
set_option maxRecDepth 100000 in
set_option maxHeartbeats 4000000 in
theorem rLocks_any (d : Dk) (r : Rq) (ov : Value) (own : List Int) (hand : Int) (w : World) (hd : d.In w w.heap.size) (hr : r.In w w.heap.size) (ho : KI.IsL w w.heap.size ov own) (hol : own.length ≤ 1000) (hh : fits hand) : Calls Tryz.prog 15 #[d.v, r.val, ov, .int .i64 hand] w fun e w' => ∃ v, e = .returned v ∧ KI.IsL w' w'.heap.size v (lkW d r own hand) ∧ Below w.heap.size w w' := by
  obtain ⟨w0, hw0⟩ : ∃ w0, w0 = (w.alloc (.cells #[.slice d.bA d.bn d.bc, .slice d.pA d.pn d.pc, .slice d.rA d.rn d.rc, .int .i64 d.arms] 26)).alloc (.cells r.ob 30) := ⟨_, rfl⟩
  have HB0 := Lib.hid (show Below w.heap.size w w0 by rw [hw0]; exact Below.al (Below.al (Below.refl _ _) _) _)
  have HD0 := Lib.hid (hd.then HB0.out)
  have HR0 := Lib.hid (hr.then HB0.out)
  have HS0 := Lib.hid (show w0.heap.size = w.heap.size + 2 by rw [hw0]; simp)
  have HK0 := Lib.hid (show DkAt w0 w.heap.size d by rw [hw0]; exact (Cells4.new w _ _ _ _ _).below (Below.al (Below.refl _ _) _))
  have HQ0 := Lib.hid (show RqAt w0 (w.heap.size + 1) r by
    have h := Cells6.new (w.alloc (.cells #[.slice d.bA d.bn d.bc, .slice d.pA d.pn d.pc, .slice d.rA d.rn d.rc, .int .i64 d.arms] 26)) 30 (.int .i64 r.k) (.slice r.iA r.il.length r.ic) (.int .i64 r.a) (.int .i64 r.b) (.int .i64 r.u) (.int .u64 r.v)
    rw [World.size_alloc] at h
    rw [hw0]; exact h)
  have HCK := Lib.hid (rcheck15_any d r w0 HD0.out HR0.out)
  have HMU := Lib.hid (show lkW d r own hand = if refV d r = (0, 0) then (if r.k = 1 then Two.mk r.il else if r.k = 3 then Two.mk own else if r.k = 8 then (if hand < 0 then [] else [hand]) else if r.k = 9 ∨ r.k = 10 then [r.a] else muL d r) else [] from rfl)
  have HMS := Lib.hid (fun w h1 h2 => rMust_any d r w h1 h2)
  have HMV0 := Lib.hid (show muV d r = if refV d r = (0, 0) then muL d r else [] from rfl)
  have HLL := Lib.hid (fun h : refV d r = (0, 0) => mf_len (mf_0 h))
  have HR1 := Lib.hid (ref_fst d r)
  have HO := Lib.hid (ho.then HB0.out)
  have HOL := Lib.hid hol
  have HH := Lib.hid hh
  have HFA := Lib.hid hr.a
  obtain ⟨⟨V1, V2⟩, hV⟩ : ∃ V, refV d r = V := ⟨_, rfl⟩
  rw [hV] at HCK HMU HLL HR1 HMV0
  obtain ⟨M, hM⟩ : ∃ M, lkW d r own hand = M := ⟨_, rfl⟩
  rw [hM] at HMU ⊢
  unfold rsv at HCK
  dsimp only at HCK HR1
  have hfd := fld0
  clear hd hr hV hM ho hol hh
  by_cases h : V1 = 0
  case neg =>
    have HMV := Lib.hid (show M = [] by rw [HMU.out, if_neg (by intro e; injection e with e _; exact h e)])
    have h' : (V1 != 0) = true := by simpa using h
    clear h
    go_enter Tryz.func15, Tryz.ntmps15
    go_wp2_with fail
    rw [← hw0]
    clear hw0
    refine HCK.out.mono ?_
    rintro e w1 ⟨rfl, hb1⟩
    go_wp2
    go_ret
    exact ⟨_, rfl, by rw [HMV.out]; exact Lk.IsL.nil _ _ _ _, Below.call HB0.out hb1⟩
  subst h
  have hV2 := HR1.out rfl
  subst hV2
  have HMV := Lib.hid (show M = if r.k = 1 then Two.mk r.il else if r.k = 3 then Two.mk own else if r.k = 8 then (if hand < 0 then [] else [hand]) else if r.k = 9 ∨ r.k = 10 then [r.a] else muL d r by rw [HMU.out, if_pos rfl])
  have HMW := Lib.hid (show muV d r = muL d r by rw [HMV0.out, if_pos rfl])
  have HL := Lib.hid (HLL.out rfl)
  have hk : (r.k == 1) = true ∨ ((r.k == 1) = false ∧ (r.k == 3) = true) ∨ ((r.k == 1) = false ∧ (r.k == 3) = false ∧ (r.k == 8) = true) ∨ ((r.k == 1) = false ∧ (r.k == 3) = false ∧ (r.k == 8) = false ∧ ((r.k == 9) = true ∨ ((r.k == 9) = false ∧ (r.k == 10) = true))) ∨ ((r.k == 1) = false ∧ (r.k == 3) = false ∧ (r.k == 8) = false ∧ (r.k == 9) = false ∧ (r.k == 10) = false) := by
    simp only [kEq, decide_eq_true_eq, decide_eq_false_iff_not]; omega
  clear HMU HMV0 HLL HR1
  go_enter Tryz.func15, Tryz.ntmps15
  go_wp2_with fail
  rw [← hw0]
  clear hw0
  refine HCK.out.mono ?_
  rintro e w1 ⟨rfl, hb1⟩
  have HB1 := Lib.hid hb1
  have HO1 := Lib.hid (HO.out.then hb1)
  obtain ⟨q0, q1, q2, q3, q4, q5, -⟩ := HQ0.out.below hb1
  obtain ⟨d0, d1, d2, d3, -⟩ := HK0.out.below hb1
  clear hb1
  rcases hk with k1 | ⟨k1, k3⟩ | ⟨k1, k3, k8⟩ | ⟨k1, k3, k8, hk⟩ | ⟨k1, k3, k8, k9, k10⟩
  · have HM2 := Lib.hid (show M = Two.mk r.il by
      simp only [kEq, decide_eq_true_eq] at k1
      rw [HMV.out, if_pos k1])
    go_wp2_with fail
    refine (Two.rfrom_any _ r.il w1 (two_of (HR0.out.then HB1.out).l) (by have := HL.out; omega)).mono ?_
    rintro e w2 ⟨v, rfl, hv, hb2⟩
    go_wp2
    go_ret
    exact ⟨_, rfl, by rw [HM2.out]; exact of_two hv, Below.call HB0.out (Below.call HB1.out hb2)⟩
  · have HM2 := Lib.hid (show M = Two.mk own by
      simp only [kEq, decide_eq_true_eq, decide_eq_false_iff_not] at k1 k3
      rw [HMV.out, if_neg k1, if_pos k3])
    go_wp2_with fail
    refine (Two.rfrom_any _ own w1 (two_of HO1.out) HOL.out).mono ?_
    rintro e w2 ⟨v, rfl, hv, hb2⟩
    go_wp2
    go_ret
    exact ⟨_, rfl, by rw [HM2.out]; exact of_two hv, Below.call HB0.out (Below.call HB1.out hb2)⟩
  · by_cases hn : hand < 0
    · have HM2 := Lib.hid (show M = [] by
        simp only [kEq, decide_eq_true_eq, decide_eq_false_iff_not] at k1 k3 k8
        rw [HMV.out, if_neg k1, if_neg k3, if_pos k8, if_pos hn])
      go_wp2
      go_ret
      exact ⟨_, rfl, by rw [HM2.out]; exact Lk.IsL.nil _ _ _ _, Below.call HB0.out HB1.out⟩
    · have HM2 := Lib.hid (show M = [hand] by
        simp only [kEq, decide_eq_true_eq, decide_eq_false_iff_not] at k1 k3 k8
        rw [HMV.out, if_neg k1, if_neg k3, if_pos k8, if_neg hn])
      go_wp2
      go_ret
      refine ⟨_, rfl, ?_, Below.al (Below.call HB0.out HB1.out) _⟩
      rw [HM2.out, World.size_alloc]
      exact Lk.IsL.lit (K := KI) w1 hand #[.int .i64 hand] HH.out rfl w1.heap.size rfl
  · have HM2 := Lib.hid (show M = [r.a] by
      simp only [kEq, decide_eq_true_eq, decide_eq_false_iff_not] at k1 k3 k8 hk
      rw [HMV.out, if_neg k1, if_neg k3, if_neg k8, if_pos (by omega)])
    rcases hk with k9 | ⟨k9, k10⟩
    all_goals
      go_wp2
      go_ret
      refine ⟨_, rfl, ?_, Below.al (Below.call HB0.out HB1.out) _⟩
      rw [HM2.out, World.size_alloc]
      exact Lk.IsL.lit (K := KI) w1 r.a #[.int .i64 r.a] HFA.out rfl w1.heap.size rfl
  · have HM2 := Lib.hid (show M = muV d r by
      simp only [kEq, decide_eq_false_iff_not] at k1 k9 k10 k3 k8
      rw [HMV.out, if_neg k1, if_neg k3, if_neg k8, if_neg (by omega), HMW.out])
    go_wp2_with fail
    refine (HMS.out w1 (HD0.out.then HB1.out) (HR0.out.then HB1.out)).mono ?_
    rintro e w2 ⟨v, rfl, hv, hb2⟩
    go_wp2
    go_ret
    exact ⟨_, rfl, by rw [HM2.out]; exact hv, Below.call HB0.out (Below.call HB1.out hb2)⟩
end Go.Proofs.YtmecohdedghiaaaGreatDoor
namespace Go.Proofs.YtmecohdedghiaaaGreatDoor
open Go.RowKit
set_option maxRecDepth 100000 in
set_option maxHeartbeats 4000000 in
theorem wantLocks_walk (d : Dk) (r : Rq) (ov : Value) (own : List Int) (hand : Int) (w : World) (hd : d.In w w.heap.size) (hr : r.In w w.heap.size) (hT : Nn.Tab w) (ho : KI.IsL w w.heap.size ov own) (hh : fits hand) : Calls Tryz.prog 3 #[d.v, r.val, ov, .int .i64 hand] w fun e w' => e = .returned (.bool true) ∧ Below w.heap.size w w' := by
  obtain ⟨w0, hw0⟩ : ∃ w0, w0 = (w.alloc (.cells #[.slice d.bA d.bn d.bc, .slice d.pA d.pn d.pc, .slice d.rA d.rn d.rc, .int .i64 d.arms] 26)).alloc (.cells r.ob 30) := ⟨_, rfl⟩
  have HB0 := Lib.hid (show Below w.heap.size w w0 by rw [hw0]; exact Below.al (Below.al (Below.refl _ _) _) _)
  have HD0 := Lib.hid (hd.then HB0.out)
  have HR0 := Lib.hid (hr.then HB0.out)
  have HS0 := Lib.hid (show w0.heap.size = w.heap.size + 2 by rw [hw0]; simp)
  have HK0 := Lib.hid (show DkAt w0 w.heap.size d by rw [hw0]; exact (Cells4.new w _ _ _ _ _).below (Below.al (Below.refl _ _) _))
  have HQ0 := Lib.hid (show RqAt w0 (w.heap.size + 1) r by
    have h := Cells6.new (w.alloc (.cells #[.slice d.bA d.bn d.bc, .slice d.pA d.pn d.pc, .slice d.rA d.rn d.rc, .int .i64 d.arms] 26)) 30 (.int .i64 r.k) (.slice r.iA r.il.length r.ic) (.int .i64 r.a) (.int .i64 r.b) (.int .i64 r.u) (.int .u64 r.v)
    rw [World.size_alloc] at h
    rw [hw0]; exact h)
  obtain ⟨oA, oc, rfl, hoc⟩ := ho.shape
  have HT0 := Lib.hid (hT.below HB0.out)
  have HLA := Lib.hid (large15_any d r w0 HD0.out HR0.out)
  have HLV := Lib.hid (fun w h => lives15 w h)
  have HO0 := Lib.hid (ho.then HB0.out)
  have HOS := Lib.hid ho.2.2
  have HMS := Lib.hid (fun V (h : Below w0.heap.size w0 V) => Must_any d r V (HD0.out.then h) (HR0.out.then h) (HT0.out.below h))
  have HRM := Lib.hid (fun V (h : Below w0.heap.size w0 V) => rMust_any d r V (HD0.out.then h) (HR0.out.then h))
  have HLK := Lib.hid (fun (hl : own.length ≤ 1000) V (h : Below w0.heap.size w0 V) => locks_any d r (.slice oA own.length oc) own hand V (HD0.out.then h) (HR0.out.then h) (HT0.out.below h) (HO0.out.then h) hl hh)
  have HRL := Lib.hid (fun (hl : own.length ≤ 1000) V (h : Below w0.heap.size w0 V) => rLocks_any d r (.slice oA own.length oc) own hand V (HD0.out.then h) (HR0.out.then h) (HO0.out.then h) hl hh)
  generalize muV d r = M at *
  generalize lkW d r own hand = L at *
  generalize large15 d r = lg at *
  clear hd hr hT ho hh
  cases lg
  case true =>
    go_enter Tryz.func3, Tryz.ntmps3
    go_wp2_with fail
    rw [← hw0]
    clear hw0
    refine HLA.out.mono ?_
    rintro e w1 ⟨rfl, hb1⟩
    have HB1 := Lib.hid hb1
    clear hb1
    go_wp2_with fail
    refine (HLV.out _ (HT0.out.below HB1.out)).mono ?_
    rintro e w2 ⟨rfl, hb2⟩
    go_wp2
    go_ret
    exact ⟨rfl, Below.call HB0.out (Below.call HB1.out hb2)⟩
  by_cases h1 : own.length > 1000
  · go_enter Tryz.func3, Tryz.ntmps3
    go_wp2_with fail
    rw [← hw0]
    clear hw0
    refine HLA.out.mono ?_
    rintro e w1 ⟨rfl, hb1⟩
    have HB1 := Lib.hid hb1
    clear hb1
    go_wp2_with fail
    refine (HLV.out _ (HT0.out.below HB1.out)).mono ?_
    rintro e w2 ⟨rfl, hb2⟩
    go_wp2
    go_ret
    exact ⟨rfl, Below.call HB0.out (Below.call HB1.out hb2)⟩
  have HLK := Lib.hid (HLK.out (by omega))
  have HRL := Lib.hid (HRL.out (by omega))
  go_enter Tryz.func3, Tryz.ntmps3
  go_wp2_with fail
  rw [← hw0]
  clear hw0
  refine HLA.out.mono ?_
  rintro e w1 ⟨rfl, hb1⟩
  have HB1 := Lib.hid hb1
  obtain ⟨q0, q1, q2, q3, q4, q5, -⟩ := HQ0.out.below hb1
  obtain ⟨d0, d1, d2, d3, -⟩ := HK0.out.below hb1
  clear hb1
  go_wp2_with fail
  refine wp_region_held_drew (S := fun w' => w'.cell? ⟨w.heap.size, 0, none⟩ = some (.slice d.bA d.bn d.bc) ∧ w'.cell? ⟨w.heap.size, 1, none⟩ = some (.slice d.pA d.pn d.pc) ∧ w'.cell? ⟨w.heap.size, 2, none⟩ = some (.slice d.rA d.rn d.rc) ∧ w'.cell? ⟨w.heap.size, 3, none⟩ = some (.int .i64 d.arms) ∧ w'.cell? ⟨w.heap.size + 1, 0, none⟩ = some (.int .i64 r.k) ∧ w'.cell? ⟨w.heap.size + 1, 1, none⟩ = some (.slice r.iA r.il.length r.ic) ∧ w'.cell? ⟨w.heap.size + 1, 2, none⟩ = some (.int .i64 r.a) ∧ w'.cell? ⟨w.heap.size + 1, 3, none⟩ = some (.int .i64 r.b) ∧ w'.cell? ⟨w.heap.size + 1, 4, none⟩ = some (.int .i64 r.u) ∧ w'.cell? ⟨w.heap.size + 1, 5, none⟩ = some (.int .u64 r.v)) (by kernel_rfl) ?_ (fun hHeld => ?_)
  · exact ⟨d0, d1, d2, d3, q0, q1, q2, q3, q4, q5⟩
  have HBr := Lib.hid (show Below w0.heap.size w0 w1.drew from below_drewN HB1.out 1)
  clear d0 d1 d2 d3 q0 q1 q2 q3 q4 q5
  generalize w1.drew = wv at *
  refine wpAnyH_ready (rs := [0]) (by kernel_rfl) (by simp) ?_
  refine AllReadyH.cons (o := ⟨some 18, _, _, _, _, _⟩) rfl (fun K hK => ?_) AllReadyH.nil
  go_simp
  (with_reducible refine (HLV.out _ (HT0.out.below HBr.out)).mono ?_)
  rintro e wv ⟨rfl, hb⟩
  obtain ⟨s0, s1, s2, s3, s4, s5, s6, s7, s8, s9⟩ := hHeld
  have HBr := Lib.hid (Below.call HBr.out hb)
  replace s0 := keep_cell hb s0
  replace s1 := keep_cell hb s1
  replace s2 := keep_cell hb s2
  replace s3 := keep_cell hb s3
  replace s4 := keep_cell hb s4
  replace s5 := keep_cell hb s5
  replace s6 := keep_cell hb s6
  replace s7 := keep_cell hb s7
  replace s8 := keep_cell hb s8
  replace s9 := keep_cell hb s9
  clear hb
  go_wp2_with fail
  refine hK.out _ _ ⟨s0, s1, s2, s3, s4, s5, s6, s7, s8, s9⟩ (fun hHeld => ?_)
  clear hK K s0 s1 s2 s3 s4 s5 s6 s7 s8 s9
  (try simp only [Act.put, List.setIfInBounds_toArray, List.set_cons_zero, List.set_cons_succ])
  refine wpAnyH_take (i := 1) (oi := ⟨some 19, _, _, _, _, _⟩) (v := ?_) rfl (by kernel_rfl) (by kernel_rfl) (by kernel_rfl) (fun _ _ _ h => h) (Or.inl ⟨by kernel_rfl, ?_⟩) (by assumption) ?_
  rotate_left 1
  · ((intro w hSw; (try dsimp only at hSw); go_simp) <;> (try with_reducible rfl))
  (try simp only [Act.put, List.setIfInBounds_toArray, List.set_cons_zero, List.set_cons_succ])
  refine wpAnyH_take (i := 2) (oi := ⟨some 20, _, _, _, _, _⟩) (v := ?_) rfl (by kernel_rfl) (by kernel_rfl) (by kernel_rfl) (fun _ _ _ h => h) (Or.inl ⟨by kernel_rfl, ?_⟩) (by assumption) ?_
  rotate_left 1
  · ((intro w hSw; (try dsimp only at hSw); go_simp) <;> (try with_reducible rfl))
  (try simp only [Act.put, List.setIfInBounds_toArray, List.set_cons_zero, List.set_cons_succ])
  refine wpAnyH_take (i := 3) (oi := ⟨some 21, _, _, _, _, _⟩) (v := ?_) rfl (by kernel_rfl) (by kernel_rfl) (by kernel_rfl) (fun _ _ _ h => h) (Or.inl ⟨by kernel_rfl, ?_⟩) (by assumption) ?_
  rotate_left 1
  · ((intro w hSw; (try dsimp only at hSw); go_simp) <;> (try with_reducible rfl))
  (try simp only [Act.put, List.setIfInBounds_toArray, List.set_cons_zero, List.set_cons_succ])
  refine wpAnyH_take (i := 5) (oi := ⟨some 23, _, _, _, _, _⟩) (v := ?_) rfl (by kernel_rfl) (by kernel_rfl) (by kernel_rfl) (fun _ _ _ h => h) (Or.inl ⟨by kernel_rfl, ?_⟩) (by assumption) ?_
  rotate_left 1
  · ((intro w hSw; (try dsimp only at hSw); go_simp) <;> (try with_reducible rfl))
  (try simp only [Act.put, List.setIfInBounds_toArray, List.set_cons_zero, List.set_cons_succ])
  refine wpAnyH_take (i := 6) (oi := ⟨some 24, _, _, _, _, _⟩) (v := ?_) rfl (by kernel_rfl) (by kernel_rfl) (by kernel_rfl) (fun _ _ _ h => h) (Or.inl ⟨by kernel_rfl, ?_⟩) (by assumption) ?_
  rotate_left 1
  · ((intro w hSw; (try dsimp only at hSw); go_simp) <;> (try with_reducible rfl))
  (try simp only [Act.put, List.setIfInBounds_toArray, List.set_cons_zero, List.set_cons_succ])
  refine wpAnyH_ready (rs := [4]) (by kernel_rfl) (by simp) ?_
  refine AllReadyH.cons (o := ⟨some 22, _, _, _, _, _⟩) rfl (fun K hK => ?_) AllReadyH.nil
  go_simp
  (with_reducible refine (HMS.out _ HBr.out).mono ?_)
  rintro e wv ⟨mv, rfl, hm, hb⟩
  obtain ⟨s0, s1, s2, s3, s4, s5, s6, s7, s8, s9⟩ := hHeld
  have HBr := Lib.hid (Below.call HBr.out hb)
  have HMV := Lib.hid hm
  replace s0 := keep_cell hb s0
  replace s1 := keep_cell hb s1
  replace s2 := keep_cell hb s2
  replace s3 := keep_cell hb s3
  replace s4 := keep_cell hb s4
  replace s5 := keep_cell hb s5
  replace s6 := keep_cell hb s6
  replace s7 := keep_cell hb s7
  replace s8 := keep_cell hb s8
  replace s9 := keep_cell hb s9
  clear hb hm
  go_wp2_with fail
  refine hK.out _ _ ⟨s0, s1, s2, s3, s4, s5, s6, s7, s8, s9⟩ (fun hHeld => ?_)
  clear hK K s0 s1 s2 s3 s4 s5 s6 s7 s8 s9
  (try simp only [Act.put, List.setIfInBounds_toArray, List.set_cons_zero, List.set_cons_succ])
  refine wpAnyH_ready (rs := [7]) (by kernel_rfl) (by simp) ?_
  refine AllReadyH.cons (o := ⟨some 25, _, _, _, _, _⟩) rfl (fun K hK => ?_) AllReadyH.nil
  go_simp
  (with_reducible refine (HRM.out _ HBr.out).mono ?_)
  rintro e wv ⟨nv, rfl, hn, hb⟩
  obtain ⟨s0, s1, s2, s3, s4, s5, s6, s7, s8, s9⟩ := hHeld
  have HBr := Lib.hid (Below.call HBr.out hb)
  have HMV := Lib.hid (HMV.out.then hb)
  have HNV := Lib.hid hn
  replace s0 := keep_cell hb s0
  replace s1 := keep_cell hb s1
  replace s2 := keep_cell hb s2
  replace s3 := keep_cell hb s3
  replace s4 := keep_cell hb s4
  replace s5 := keep_cell hb s5
  replace s6 := keep_cell hb s6
  replace s7 := keep_cell hb s7
  replace s8 := keep_cell hb s8
  replace s9 := keep_cell hb s9
  clear hb hn
  go_wp2_with fail
  refine hK.out _ _ ⟨s0, s1, s2, s3, s4, s5, s6, s7, s8, s9⟩ (fun hHeld => ?_)
  clear hK K s0 s1 s2 s3 s4 s5 s6 s7 s8 s9
  (try simp only [Act.put, List.setIfInBounds_toArray, List.set_cons_zero, List.set_cons_succ])
  refine wpAnyH_ready (rs := [8]) (by kernel_rfl) (by simp) ?_
  refine AllReadyH.cons (o := ⟨some 26, _, _, _, _, _⟩) rfl (fun K hK => ?_) AllReadyH.nil
  go_simp
  (with_reducible refine (sameB _ _ M M _ (two_of HMV.out) (two_of HNV.out)).mono ?_)
  rintro e wv ⟨rfl, hb⟩
  simp only [decide_true]
  obtain ⟨s0, s1, s2, s3, s4, s5, s6, s7, s8, s9⟩ := hHeld
  have HBr := Lib.hid (Below.call HBr.out hb)
  have HMV := Lib.hid (HMV.out.then hb)
  have HNV := Lib.hid (HNV.out.then hb)
  replace s0 := keep_cell hb s0
  replace s1 := keep_cell hb s1
  replace s2 := keep_cell hb s2
  replace s3 := keep_cell hb s3
  replace s4 := keep_cell hb s4
  replace s5 := keep_cell hb s5
  replace s6 := keep_cell hb s6
  replace s7 := keep_cell hb s7
  replace s8 := keep_cell hb s8
  replace s9 := keep_cell hb s9
  clear hb
  go_wp2_with fail
  refine hK.out _ _ ⟨s0, s1, s2, s3, s4, s5, s6, s7, s8, s9⟩ (fun hHeld => ?_)
  clear hK K s0 s1 s2 s3 s4 s5 s6 s7 s8 s9
  (try simp only [Act.put, List.setIfInBounds_toArray, List.set_cons_zero, List.set_cons_succ])
  refine wpAnyH_take (i := 9) (oi := ⟨some 27, _, _, _, _, _⟩) (v := ?_) rfl (by kernel_rfl) (by kernel_rfl) (by kernel_rfl) (fun _ _ _ h => h) (Or.inl ⟨by kernel_rfl, ?_⟩) (by assumption) ?_
  rotate_left 1
  · ((intro w hSw; (try dsimp only at hSw); go_simp) <;> (try with_reducible rfl))
  (try simp only [Act.put, List.setIfInBounds_toArray, List.set_cons_zero, List.set_cons_succ])
  refine wpAnyH_take (i := 10) (oi := ⟨some 28, _, _, _, _, _⟩) (v := ?_) rfl (by kernel_rfl) (by kernel_rfl) (by kernel_rfl) (fun _ _ _ h => h) (Or.inl ⟨by kernel_rfl, ?_⟩) (by assumption) ?_
  rotate_left 1
  · ((intro w hSw; (try dsimp only at hSw); go_simp) <;> (try with_reducible rfl))
  (try simp only [Act.put, List.setIfInBounds_toArray, List.set_cons_zero, List.set_cons_succ])
  refine wpAnyH_take (i := 11) (oi := ⟨some 29, _, _, _, _, _⟩) (v := ?_) rfl (by kernel_rfl) (by kernel_rfl) (by kernel_rfl) (fun _ _ _ h => h) (Or.inl ⟨by kernel_rfl, ?_⟩) (by assumption) ?_
  rotate_left 1
  · ((intro w hSw; (try dsimp only at hSw); go_simp) <;> (try with_reducible rfl))
  (try simp only [Act.put, List.setIfInBounds_toArray, List.set_cons_zero, List.set_cons_succ])
  refine wpAnyH_take (i := 12) (oi := ⟨some 30, _, _, _, _, _⟩) (v := ?_) rfl (by kernel_rfl) (by kernel_rfl) (by kernel_rfl) (fun _ _ _ h => h) (Or.inl ⟨by kernel_rfl, ?_⟩) (by assumption) ?_
  rotate_left 1
  · ((intro w hSw; (try dsimp only at hSw); go_simp) <;> (try with_reducible rfl))
  (try simp only [Act.put, List.setIfInBounds_toArray, List.set_cons_zero, List.set_cons_succ])
  refine wpAnyH_take (i := 13) (oi := ⟨some 31, _, _, _, _, _⟩) (v := ?_) rfl (by kernel_rfl) (by kernel_rfl) (by kernel_rfl) (fun _ _ _ h => h) (Or.inl ⟨by kernel_rfl, ?_⟩) (by assumption) ?_
  rotate_left 1
  · ((intro w hSw; (try dsimp only at hSw); go_simp) <;> (try with_reducible rfl))
  (try simp only [Act.put, List.setIfInBounds_toArray, List.set_cons_zero, List.set_cons_succ])
  refine wpAnyH_take (i := 14) (oi := ⟨some 32, _, _, _, _, _⟩) (v := ?_) rfl (by kernel_rfl) (by kernel_rfl) (by kernel_rfl) (fun _ _ _ h => h) (Or.inl ⟨by kernel_rfl, ?_⟩) (by assumption) ?_
  rotate_left 1
  · ((intro w hSw; (try dsimp only at hSw); go_simp) <;> (try with_reducible rfl))
  (try simp only [Act.put, List.setIfInBounds_toArray, List.set_cons_zero, List.set_cons_succ])
  refine wpAnyH_take (i := 16) (oi := ⟨some 34, _, _, _, _, _⟩) (v := ?_) rfl (by kernel_rfl) (by kernel_rfl) (by kernel_rfl) (fun _ _ _ h => h) (Or.inl ⟨by kernel_rfl, ?_⟩) (by assumption) ?_
  rotate_left 1
  · ((intro w hSw; (try dsimp only at hSw); go_simp) <;> (try with_reducible rfl))
  (try simp only [Act.put, List.setIfInBounds_toArray, List.set_cons_zero, List.set_cons_succ])
  refine wpAnyH_take (i := 17) (oi := ⟨some 35, _, _, _, _, _⟩) (v := ?_) rfl (by kernel_rfl) (by kernel_rfl) (by kernel_rfl) (fun _ _ _ h => h) (Or.inl ⟨by kernel_rfl, ?_⟩) (by assumption) ?_
  rotate_left 1
  · ((intro w hSw; (try dsimp only at hSw); go_simp) <;> (try with_reducible rfl))
  (try simp only [Act.put, List.setIfInBounds_toArray, List.set_cons_zero, List.set_cons_succ])
  refine wpAnyH_take (i := 18) (oi := ⟨some 36, _, _, _, _, _⟩) (v := ?_) rfl (by kernel_rfl) (by kernel_rfl) (by kernel_rfl) (fun _ _ _ h => h) (Or.inl ⟨by kernel_rfl, ?_⟩) (by assumption) ?_
  rotate_left 1
  · ((intro w hSw; (try dsimp only at hSw); go_simp) <;> (try with_reducible rfl))
  (try simp only [Act.put, List.setIfInBounds_toArray, List.set_cons_zero, List.set_cons_succ])
  refine wpAnyH_take (i := 19) (oi := ⟨some 37, _, _, _, _, _⟩) (v := ?_) rfl (by kernel_rfl) (by kernel_rfl) (by kernel_rfl) (fun _ _ _ h => h) (Or.inl ⟨by kernel_rfl, ?_⟩) (by assumption) ?_
  rotate_left 1
  · ((intro w hSw; (try dsimp only at hSw); go_simp) <;> (try with_reducible rfl))
  (try simp only [Act.put, List.setIfInBounds_toArray, List.set_cons_zero, List.set_cons_succ])
  refine wpAnyH_ready (rs := [15]) (by kernel_rfl) (by simp) ?_
  refine AllReadyH.cons (o := ⟨some 33, _, _, _, _, _⟩) rfl (fun K hK => ?_) AllReadyH.nil
  go_simp
  (with_reducible refine (HLK.out _ HBr.out).mono ?_)
  rintro e wv ⟨lv, rfl, hl, hb⟩
  obtain ⟨s0, s1, s2, s3, s4, s5, s6, s7, s8, s9⟩ := hHeld
  have HBr := Lib.hid (Below.call HBr.out hb)
  have HMV := Lib.hid (HMV.out.then hb)
  have HNV := Lib.hid (HNV.out.then hb)
  have HLW := Lib.hid hl
  replace s0 := keep_cell hb s0
  replace s1 := keep_cell hb s1
  replace s2 := keep_cell hb s2
  replace s3 := keep_cell hb s3
  replace s4 := keep_cell hb s4
  replace s5 := keep_cell hb s5
  replace s6 := keep_cell hb s6
  replace s7 := keep_cell hb s7
  replace s8 := keep_cell hb s8
  replace s9 := keep_cell hb s9
  clear hb hl
  go_wp2_with fail
  refine hK.out _ _ ⟨s0, s1, s2, s3, s4, s5, s6, s7, s8, s9⟩ (fun hHeld => ?_)
  clear hK K s0 s1 s2 s3 s4 s5 s6 s7 s8 s9
  (try simp only [Act.put, List.setIfInBounds_toArray, List.set_cons_zero, List.set_cons_succ])
  refine wpAnyH_ready (rs := [20]) (by kernel_rfl) (by simp) ?_
  refine AllReadyH.cons (o := ⟨some 38, _, _, _, _, _⟩) rfl (fun K hK => ?_) AllReadyH.nil
  go_simp
  (with_reducible refine (HRL.out _ HBr.out).mono ?_)
  rintro e wv ⟨kv, rfl, hk, hb⟩
  obtain ⟨s0, s1, s2, s3, s4, s5, s6, s7, s8, s9⟩ := hHeld
  have HBr := Lib.hid (Below.call HBr.out hb)
  have HMV := Lib.hid (HMV.out.then hb)
  have HNV := Lib.hid (HNV.out.then hb)
  have HLW := Lib.hid (HLW.out.then hb)
  have HKW := Lib.hid hk
  replace s0 := keep_cell hb s0
  replace s1 := keep_cell hb s1
  replace s2 := keep_cell hb s2
  replace s3 := keep_cell hb s3
  replace s4 := keep_cell hb s4
  replace s5 := keep_cell hb s5
  replace s6 := keep_cell hb s6
  replace s7 := keep_cell hb s7
  replace s8 := keep_cell hb s8
  replace s9 := keep_cell hb s9
  clear hb hk
  go_wp2_with fail
  refine hK.out _ _ ⟨s0, s1, s2, s3, s4, s5, s6, s7, s8, s9⟩ (fun hHeld => ?_)
  clear hK K s0 s1 s2 s3 s4 s5 s6 s7 s8 s9
  (try simp only [Act.put, List.setIfInBounds_toArray, List.set_cons_zero, List.set_cons_succ])
  refine wpAnyH_ready (rs := [21]) (by kernel_rfl) (by simp) ?_
  refine AllReadyH.cons (o := ⟨some 39, _, _, _, _, _⟩) rfl (fun K hK => ?_) AllReadyH.nil
  go_simp
  (with_reducible refine (sameB _ _ L L _ (two_of HLW.out) (two_of HKW.out)).mono ?_)
  rintro e wv ⟨rfl, hb⟩
  simp only [decide_true]
  obtain ⟨s0, s1, s2, s3, s4, s5, s6, s7, s8, s9⟩ := hHeld
  have HBr := Lib.hid (Below.call HBr.out hb)
  have HMV := Lib.hid (HMV.out.then hb)
  have HNV := Lib.hid (HNV.out.then hb)
  have HLW := Lib.hid (HLW.out.then hb)
  have HKW := Lib.hid (HKW.out.then hb)
  replace s0 := keep_cell hb s0
  replace s1 := keep_cell hb s1
  replace s2 := keep_cell hb s2
  replace s3 := keep_cell hb s3
  replace s4 := keep_cell hb s4
  replace s5 := keep_cell hb s5
  replace s6 := keep_cell hb s6
  replace s7 := keep_cell hb s7
  replace s8 := keep_cell hb s8
  replace s9 := keep_cell hb s9
  clear hb
  go_wp2_with fail
  refine hK.out _ _ ⟨s0, s1, s2, s3, s4, s5, s6, s7, s8, s9⟩ (fun hHeld => ?_)
  clear hK K s0 s1 s2 s3 s4 s5 s6 s7 s8 s9
  (try simp only [Act.put, List.setIfInBounds_toArray, List.set_cons_zero, List.set_cons_succ])
  refine wpAnyH_take (i := 22) (oi := ⟨some 40, _, _, _, _, _⟩) (v := ?_) rfl (by kernel_rfl) (by kernel_rfl) (by kernel_rfl) (fun _ _ _ h => h) (Or.inl ⟨by kernel_rfl, ?_⟩) (by assumption) ?_
  rotate_left 1
  · ((intro w hSw; (try dsimp only at hSw); go_simp) <;> (try with_reducible rfl))
  (try simp only [Act.put, List.setIfInBounds_toArray, List.set_cons_zero, List.set_cons_succ])
  refine wpAnyH_take (i := 23) (oi := ⟨some 8, _, _, _, _, _⟩) (v := ?_) rfl (by kernel_rfl) (by kernel_rfl) (by kernel_rfl) (fun _ _ _ h => h) (Or.inl ⟨by kernel_rfl, ?_⟩) (by assumption) ?_
  rotate_left 1
  · ((intro w hSw; (try dsimp only at hSw); go_simp) <;> (try with_reducible rfl))
  (try simp only [Act.put, List.setIfInBounds_toArray, List.set_cons_zero, List.set_cons_succ])
  refine wpAnyH_done (by kernel_rfl) ?_ _
  go_wp2
  go_ret
  exact ⟨rfl, Below.call HB0.out HBr.out⟩
end Go.Proofs.YtmecohdedghiaaaGreatDoor
namespace Go.Proofs.YtmecohdedghiaaaGreatDoor
open Go.ChangeShapes Go.WideShapes Go.ChangeAt Go.RowKit Go.Deep
theorem own : ownKnob Tryz.prog.godebug = none := by kernel_rfl
theorem laidOut : laidOutB Tryz.prog = true := by kernel_rfl
theorem int_fits {n : Int} (h : (Lit.int .i64 n).wf = true) : fits n := by
  have : -9223372036854775808 ≤ n ∧ n ≤ 9223372036854775807 := by simpa [Lit.wf, IntKind.min, IntKind.max, IntKind.signed, IntKind.bits] using h
  exact this
theorem fl_fits {n : Nat} (h : (Lit.float .f64 n).wf = true) : n < 18446744073709551616 := by simpa [Lit.wf] using h
/-- A list that came in, whatever its elements are. -/
theorem Lk.opened {P : Program} {α : Type} {K : Lk P α} {H : Type} {enc : TypeId × Value → H} {w : World} (Q : α → Prop) (hcells : P.cellsOf K.E = K.n)
    (each : ∀ (fuel : Nat) (cs : List Value) (x : DataW H × List MemPlace), DataW.trod enc P w 0 (fun _ => true) true fuel K.E cs = some x → ∃ y : α, cs = K.cells y ∧ K.ok y ∧ Q y)
    {fuel : Nat} {cs : List Value} {x : DataW H × List MemPlace} (h : DataW.trod enc P w 0 (fun _ => true) true fuel K.S cs = some x) :
    ∃ v xs, cs = [v] ∧ K.IsL w w.heap.size v xs ∧ ∀ y ∈ xs, Q y := by
  rcases open_slice K.und h with ⟨rfl, _⟩ | ⟨a, len, cap, m, n, D, Pl, rfl, hb, hl, hm, hmm, rfl, hx⟩
  · exact ⟨_, [], rfl, IsL.nil _ _ _ _, fun y hy => by simp at hy⟩
  · rw [if_pos rfl] at hmm
    subst hmm
    have hm' : m ≤ 9223372036854775807 := by unfold maxLen at hm; omega
    rcases Nat.eq_zero_or_pos len with h0 | h0
    · subst h0
      exact ⟨_, [], rfl, IsL.nil _ _ _ _, fun y hy => by simp at hy⟩
    have hi : Inhabited α := ⟨K.dflt⟩
    obtain ⟨Y, hY⟩ := choose_lt (α := α) (n := len) (p := fun i y => K.ok y ∧ Q y ∧ ∀ j, j < K.n → w.cell? ((a.add (i * K.n)).add j) = (K.cells y)[j]?) (fun i hi => by
      obtain ⟨cs', h1, h2⟩ := hx i (by omega)
      rw [hcells] at h1
      obtain ⟨y, rfl, hy, hq⟩ := each _ _ _ h2
      obtain ⟨_, _, hcell⟩ := World.cells?_some h1
      exact ⟨y, hy, hq, hcell⟩)
    have hpos := K.pos
    obtain ⟨b, off, spot⟩ := a
    have h00 := (hY 0 h0).2.2 0 hpos
    obtain ⟨u0, hu0⟩ : ∃ u, (K.cells (Y 0))[0]? = some u := ⟨_, List.getElem?_eq_getElem (by rw [K.len]; exact hpos)⟩
    rw [hu0] at h00
    have hspot : spot = none := by simpa [Addr.add] using World.cell?_spot h00
    subst hspot
    have hlen : ((List.range len).map Y).length = len := by simp
    refine ⟨_, (List.range len).map Y, rfl, ⟨⟨some ⟨b, off, none⟩, m, by rw [hlen], by rw [hlen]; exact hl, fun _ => ⟨b, off, rfl, ?_, fun i hi j u hu => ?_⟩⟩, fun y hy => ?_, by rw [hlen]; omega⟩, fun y hy => ?_⟩
    · have e := World.block_lt_of_cell? w _ h00
      simpa [Addr.add] using e
    · rw [hlen] at hi
      have hj : j < K.n := by
        have := (List.getElem?_eq_some_iff.1 hu).1
        rw [K.len] at this
        exact this
      have e := (hY i hi).2.2 j hj
      rw [add_plain, add_plain] at e
      have hget : ((List.range len).map Y).getD i K.dflt = Y i := by
        rw [List.getD_eq_getElem?_getD, List.getElem?_map, List.getElem?_range hi]
        rfl
      rw [hget] at hu
      rw [← Nat.add_assoc, e, hu]
    · obtain ⟨i, hi, rfl⟩ := List.mem_map.1 hy
      exact (hY i (List.mem_range.1 hi)).1
    · obtain ⟨i, hi, rfl⟩ := List.mem_map.1 hy
      exact (hY i (List.mem_range.1 hi)).2.1
theorem trod_float {H : Type} {enc : TypeId × Value → H} {P : Program} {w : World} {base : Nat} {spare : Nat → Bool} {held : Bool} {fuel : Nat} {t : TypeId} {cs : List Value} {x : DataW H × List MemPlace} {k : FloatKind} (ht : P.underlying t = some (.float k)) (h : DataW.trod enc P w base spare held fuel t cs = some x) : ∃ n, cs = [.float k n] ∧ (Lit.float k n).wf = true := by
  cases fuel with
  | zero => simp [DataW.trod] at h
  | succ n =>
    unfold DataW.trod at h
    rw [ht] at h
    split at h <;> simp_all
end Go.Proofs.YtmecohdedghiaaaGreatDoor
