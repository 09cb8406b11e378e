/- What is wrong with a batch: the reference. -/
import Derived.Test.YtmecohdedghiaaaGreatDoorPl14
import Derived.Test.YtmecohdedghiaaaGreatDoorPl11
import Derived.Test.YtmecohdedghiaaaGreatDoorPl04
import Derived.Test.YtmecohdedghiaaaGreatDoorPl12
import Derived.StillTailTactics
namespace Go.Proofs.YtmecohdedghiaaaGreatDoor
open Go.RowKit
/-- What must be owned for a request that is not refused. -/
noncomputable def muL (d : Dk) (r : Rq) : List Int := if r.k = 4 then Two.mk ([r.a, r.b] ++ pathV d r.a r.b) else if r.k = 5 ∨ r.k = 6 ∨ r.k = 7 then Two.mk ([r.a] ++ setV d [r.a]) else if r.k = 2 then Two.mk r.il else []
noncomputable def muV (d : Dk) (r : Rq) : List Int := if refV d r = (0, 0) then muL d r else []
/-- What is locked meanwhile. -/
noncomputable def lkW (d : Dk) (r : Rq) (own : List Int) (hand : Int) : List Int := if refV d r = (0, 0) then (if r.k = 1 then Two.mk r.il else if r.k = 3 then Two.mk own else if r.k = 8 then (if hand < 0 then [] else [hand]) else if r.k = 9 ∨ r.k = 10 then [r.a] else muL d r) else []
theorem mk_mk (x y : List Int) : Two.mk (Two.mk x ++ y) = Two.mk (x ++ y) := Two.mk_of (Two.inc_mk _) fun z => by rw [Two.mem_mk, List.mem_append, Two.mem_mk, List.mem_append]
theorem mb_len (l : List Int) (h : mbV l = (0, 0)) : l.length ≤ 16 := by
  unfold mbV at h
  by_cases h0 : l = []
  · rw [h0]; simp
  rw [if_neg h0] at h
  by_cases h1 : 16 < l.length
  · rw [if_pos h1] at h; cases h
  · omega
theorem mf_0 {d : Dk} {r : Rq} (h : refV d r = (0, 0)) : mfV r = (0, 0) := by
  unfold refV at h
  by_cases hz : zchk d = 0
  · rw [if_neg (by simpa using hz)] at h
    by_cases hm : mfV r = (0, 0)
    · exact hm
    · rw [if_pos hm] at h; exact h
  · rw [if_pos hz] at h
    injection h with h1 _
    exact absurd h1 hz
theorem mf_len {r : Rq} (h : mfV r = (0, 0)) : r.il.length ≤ 16 := by
  unfold mfV at h
  by_cases h0 : r.k < 1 ∨ 10 < r.k
  · rw [if_pos h0] at h; cases h
  rw [if_neg h0] at h
  by_cases h1 : unO r = false
  · rw [if_pos h1] at h; cases h
  rw [if_neg h1] at h
  by_cases h2 : r.k = 1 ∨ r.k = 2
  · rw [if_pos h2] at h; exact mb_len _ h
  · have hu : unO r = true := by simpa using h1
    unfold unO at hu
    rw [Bool.and_eq_true, decide_eq_true_eq] at hu
    have := hu.1
    unfold unN at this
    rw [if_neg h2] at this
    omega
theorem path_inc (d : Dk) (a b : Int) : Two.Inc (pathV d a b) := by
  unfold pathV
  split
  · exact lanes_inc _ _ _
  · exact Two.inc_nil
theorem path_len (d : Dk) {w : World} (hd : d.In w w.heap.size) (a b : Int) : (pathV d a b).length ≤ 24 := by
  unfold pathV
  split
  · rename_i h
    have hg := sps_good d hd [a, b]
    rw [sps2 d a b h] at hg
    have h1 := hg (spA d a) (by simp)
    have h2 := hg (spA d b) (by simp)
    rw [lanes_len]
    omega
  · simp
set_option maxRecDepth 100000 in
set_option maxHeartbeats 4000000 in
theorem must_any (d : Dk) (r : Rq) (w : World) (hd : d.In w w.heap.size) (hr : r.In w w.heap.size) (hl : r.il.length ≤ 900) : Calls Tryz.prog 41 #[d.v, r.val] w fun e w' => ∃ v, e = .returned v ∧ KI.IsL w' w'.heap.size v (muL d r) ∧ Below w.heap.size w w' := by
  obtain ⟨w0, hw0⟩ : ∃ w0, w0 = (w.alloc (.cells #[.slice d.bA d.bn d.bc, .slice d.pA d.pn d.pc, .slice d.rA d.rn d.rc, .int .i64 d.arms] 26)).alloc (.cells r.ob 30) := ⟨_, rfl⟩
  have HB0 := Lib.hid (show Below w.heap.size w w0 by rw [hw0]; exact Below.al (Below.al (Below.refl _ _) _) _)
  have HD0 := Lib.hid (hd.then HB0.out)
  have HR0 := Lib.hid (hr.then HB0.out)
  have HS0 := Lib.hid (show w0.heap.size = w.heap.size + 2 by rw [hw0]; simp)
  have HK0 := Lib.hid (show DkAt w0 w.heap.size d by rw [hw0]; exact (Cells4.new w _ _ _ _ _).below (Below.al (Below.refl _ _) _))
  have HQ0 := Lib.hid (show RqAt w0 (w.heap.size + 1) r by
    have h := Cells6.new (w.alloc (.cells #[.slice d.bA d.bn d.bc, .slice d.pA d.pn d.pc, .slice d.rA d.rn d.rc, .int .i64 d.arms] 26)) 30 (.int .i64 r.k) (.slice r.iA r.il.length r.ic) (.int .i64 r.a) (.int .i64 r.b) (.int .i64 r.u) (.int .u64 r.v)
    rw [World.size_alloc] at h
    rw [hw0]; exact h)
  have HPT := Lib.hid (partsW_any r w0 HR0.out hl)
  have HMU := Lib.hid (show muL d r = if r.k = 4 then Two.mk ([r.a, r.b] ++ pathV d r.a r.b) else if r.k = 5 ∨ r.k = 6 ∨ r.k = 7 then Two.mk ([r.a] ++ setV d [r.a]) else if r.k = 2 then Two.mk r.il else [] from rfl)
  have HPL := Lib.hid (show ptL r = Two.mk ((nmL r).map Prod.snd) from rfl)
  have HNM := Lib.hid (show nmL r = if r.k = 1 ∨ r.k = 2 then r.il.map (fun x => (0, x)) else if r.k = 4 then [(1, r.a), (1, r.b)] else if r.k = 5 ∨ r.k = 6 ∨ r.k = 9 ∨ r.k = 10 then [(1, r.a)] else if r.k = 7 then [(2, r.a)] else [] from rfl)
  have HPI := Lib.hid (path_inc d r.a r.b)
  have HPN := Lib.hid (path_len d hd r.a r.b)
  have HSG := Lib.hid (fold_good d (spsL d [r.a]) (sps_good d hd [r.a]))
  have HSN := Lib.hid (show (setV d [r.a]).length ≤ 24 from fold_len d (spsL d [r.a]) (sps_good d hd [r.a]))
  have HPA := Lib.hid (fun w h => path_any d r.a r.b hr.a hr.b w h)
  have HNE := Lib.hid (fun v w h h1 => needs_any d v [r.a] w h h1 (by simp))
  have HLL := Lib.hid hl
  have hk : (r.k == 4) = true ∨ ((r.k == 4) = false ∧ ((r.k == 5) = true ∨ ((r.k == 5) = false ∧ ((r.k == 6) = true ∨ ((r.k == 6) = false ∧ (r.k == 7) = true))))) ∨ ((r.k == 4) = false ∧ (r.k == 5) = false ∧ (r.k == 6) = false ∧ (r.k == 7) = false ∧ (r.k == 2) = true) ∨ ((r.k == 4) = false ∧ (r.k == 5) = false ∧ (r.k == 6) = false ∧ (r.k == 7) = false ∧ (r.k == 2) = false) := by
    simp only [kEq, decide_eq_true_eq, decide_eq_false_iff_not]; omega
  have hlen : (ptL r).length ≤ 902 := by
    rw [HPL.out]
    have h1 := Two.mk_len_le ((nmL r).map Prod.snd)
    have h2 := nm_len r
    rw [List.length_map] at h1
    omega
  have HLP := Lib.hid hlen
  have HIP := Lib.hid (show Two.Inc (ptL r) by rw [HPL.out]; exact Two.inc_mk _)
  clear hd hr hl hlen
  obtain ⟨M, hM⟩ : ∃ M, muL d r = M := ⟨_, rfl⟩
  obtain ⟨PT, hPT⟩ : ∃ PT, ptL r = PT := ⟨_, rfl⟩
  rw [hM] at HMU ⊢
  rw [hPT] at HPT HPL HLP HIP
  clear hM hPT
  go_enter Tryz.func41, Tryz.ntmps41
  go_wp2_with fail
  rw [← hw0]
  clear hw0
  refine HPT.out.mono ?_
  rintro e w1 ⟨pv, rfl, hpv, hb1⟩
  have HPV := Lib.hid hpv
  have HB1 := Lib.hid hb1
  obtain ⟨q0, q1, q2, q3, q4, q5, -⟩ := HQ0.out.below hb1
  obtain ⟨d0, d1, d2, d3, -⟩ := HK0.out.below hb1
  clear hpv hb1
  rcases hk with k4 | ⟨k4, hk⟩ | ⟨k4, k5, k6, k7, k2⟩ | ⟨k4, k5, k6, k7, k2⟩
  case inl =>
    have HM2 := Lib.hid (show M = Two.mk (PT ++ pathV d r.a r.b) by
      simp only [kEq, decide_eq_true_eq] at k4
      rw [HMU.out, if_pos k4, HPL.out, HNM.out, if_neg (by omega), if_pos k4, mk_mk]; rfl)
    go_wp2_with fail
    refine (HPA.out w1 (HD0.out.then HB1.out)).mono ?_
    rintro e w2 ⟨lv, rfl, hlv, hb2⟩
    have HB2 := Lib.hid (Below.call HB0.out (Below.call HB1.out hb2))
    have HLV := Lib.hid hlv
    have HPW := Lib.hid (HPV.out.then hb2)
    clear hlv hb2
    go_wp2_with fail
    refine (Two.either_any _ _ PT (pathV d r.a r.b) w2 (two_of HPW.out) (two_of HLV.out) (by have := HLP.out; have := HPN.out; omega) HIP.out HPI.out).mono ?_
    rintro e w3 ⟨nv, rfl, hnv, hb3⟩
    go_wp2
    go_ret
    exact ⟨_, rfl, by rw [HM2.out]; exact of_two hnv, Below.call HB2.out hb3⟩
  case inr.inr.inr =>
    have HM2 := Lib.hid (show M = [] by
      simp only [kEq, decide_eq_false_iff_not] at k4 k5 k6 k7 k2
      rw [HMU.out, if_neg k4, if_neg (by omega), if_neg k2])
    go_wp2
    go_ret
    exact ⟨_, rfl, by rw [HM2.out]; exact Lk.IsL.nil _ _ _ _, Below.call HB0.out HB1.out⟩
  case inr.inr.inl =>
    have HM2 := Lib.hid (show M = Two.mk (PT ++ []) by
      simp only [kEq, decide_eq_false_iff_not, decide_eq_true_eq] at k4 k5 k6 k7 k2
      rw [HMU.out, if_neg k4, if_neg (by omega), if_pos k2, HPL.out, HNM.out, if_pos (.inr k2), List.map_map, mk_mk, List.append_nil]
      congr 1
      exact (List.map_id _).symm)
    go_wp2_with fail
    refine (Two.either_any _ _ PT [] w1 (two_of HPV.out) (two_of (Lk.IsL.nil _ _ _ _)) (by have := HLP.out; simp; omega) HIP.out Two.inc_nil).mono ?_
    rintro e w3 ⟨nv, rfl, hnv, hb3⟩
    go_wp2
    go_ret
    exact ⟨_, rfl, by rw [HM2.out]; exact of_two hnv, Below.call HB0.out (Below.call HB1.out hb3)⟩
  have HP1 := Lib.hid (show PT = [r.a] by
    have hk2 : r.k ≠ 4 ∧ (r.k = 5 ∨ r.k = 6 ∨ r.k = 7) := by
      simp only [kEq, decide_eq_true_eq, decide_eq_false_iff_not] at k4 hk; omega
    rw [HPL.out, HNM.out, if_neg (by omega), if_neg hk2.1]
    by_cases h7 : r.k = 7
    · rw [if_neg (by omega), if_pos h7]; rfl
    · rw [if_pos (by omega)]; rfl)
  have HM2 := Lib.hid (show M = Two.mk (PT ++ setV d [r.a]) by
    have hk2 : r.k ≠ 4 ∧ (r.k = 5 ∨ r.k = 6 ∨ r.k = 7) := by
      simp only [kEq, decide_eq_true_eq, decide_eq_false_iff_not] at k4 hk; omega
    rw [HMU.out, if_neg hk2.1, if_pos hk2.2, HP1.out])
  rcases hk with k5 | ⟨k5, k6 | ⟨k6, k7⟩⟩
  all_goals
    go_wp2_with fail
    refine (HNE.out pv w1 (HD0.out.then HB1.out) (by rw [← HP1.out]; exact HPV.out)).mono ?_
    rintro e w2 ⟨lv, rfl, hlv, hb2⟩
    have HB2 := Lib.hid (Below.call HB0.out (Below.call HB1.out hb2))
    have HLV := Lib.hid hlv
    have HPW := Lib.hid (HPV.out.then hb2)
    clear hlv hb2
    go_wp2_with fail
    refine (Two.either_any _ _ PT (setV d [r.a]) w2 (two_of HPW.out) (two_of HLV.out) (by have := HLP.out; have := HSN.out; omega) HIP.out HSG.out.1).mono ?_
    rintro e w3 ⟨nv, rfl, hnv, hb3⟩
    go_wp2
    go_ret
    exact ⟨_, rfl, by rw [HM2.out]; exact of_two hnv, Below.call HB2.out hb3⟩
end Go.Proofs.YtmecohdedghiaaaGreatDoor
namespace Go.Proofs.YtmecohdedghiaaaGreatDoor
open Go.RowKit
set_option maxRecDepth 100000 in
set_option maxHeartbeats 4000000 in
theorem Must_any (d : Dk) (r : Rq) (w : World) (hd : d.In w w.heap.size) (hr : r.In w w.heap.size) (hT : Nn.Tab w) : Calls Tryz.prog 12 #[d.v, r.val] w fun e w' => ∃ v, e = .returned v ∧ KI.IsL w' w'.heap.size v (muV d r) ∧ Below w.heap.size w w' := by
  obtain ⟨w0, hw0⟩ : ∃ w0, w0 = (w.alloc (.cells #[.slice d.bA d.bn d.bc, .slice d.pA d.pn d.pc, .slice d.rA d.rn d.rc, .int .i64 d.arms] 26)).alloc (.cells r.ob 30) := ⟨_, rfl⟩
  have HB0 := Lib.hid (show Below w.heap.size w w0 by rw [hw0]; exact Below.al (Below.al (Below.refl _ _) _) _)
  have HD0 := Lib.hid (hd.then HB0.out)
  have HR0 := Lib.hid (hr.then HB0.out)
  have HS0 := Lib.hid (show w0.heap.size = w.heap.size + 2 by rw [hw0]; simp)
  have HK0 := Lib.hid (show DkAt w0 w.heap.size d by rw [hw0]; exact (Cells4.new w _ _ _ _ _).below (Below.al (Below.refl _ _) _))
  have HQ0 := Lib.hid (show RqAt w0 (w.heap.size + 1) r by
    have h := Cells6.new (w.alloc (.cells #[.slice d.bA d.bn d.bc, .slice d.pA d.pn d.pc, .slice d.rA d.rn d.rc, .int .i64 d.arms] 26)) 30 (.int .i64 r.k) (.slice r.iA r.il.length r.ic) (.int .i64 r.a) (.int .i64 r.b) (.int .i64 r.u) (.int .u64 r.v)
    rw [World.size_alloc] at h
    rw [hw0]; exact h)
  have HMY := Lib.hid (may_any d r w0 HD0.out HR0.out (hT.below HB0.out))
  have HMU := Lib.hid (show muV d r = if refV d r = (0, 0) then muL d r else [] from rfl)
  have HMS := Lib.hid (fun w h1 h2 h3 => must_any d r w h1 h2 h3)
  have HLL := Lib.hid (fun h : refV d r = (0, 0) => mf_len (mf_0 h))
  obtain ⟨V, hV⟩ : ∃ V, refV d r = V := ⟨_, rfl⟩
  rw [hV] at HMY HMU HLL
  obtain ⟨M, hM⟩ : ∃ M, muV d r = M := ⟨_, rfl⟩
  rw [hM] at HMU ⊢
  clear hd hr hT hV hM
  by_cases h : V = (0, 0)
  · have HMV := Lib.hid (show M = muL d r by rw [HMU.out, if_pos h])
    have HL := Lib.hid (HLL.out h)
    rw [decide_eq_true h] at HMY
    clear h
    go_enter Tryz.func12, Tryz.ntmps12
    go_wp2_with fail
    rw [← hw0]
    clear hw0
    refine HMY.out.mono ?_
    rintro e w1 ⟨rfl, hb1⟩
    have HB1 := Lib.hid hb1
    obtain ⟨q0, q1, q2, q3, q4, q5, -⟩ := HQ0.out.below hb1
    obtain ⟨d0, d1, d2, d3, -⟩ := HK0.out.below hb1
    clear hb1
    go_wp2_with fail
    refine (HMS.out w1 (HD0.out.then HB1.out) (HR0.out.then HB1.out) (by have := HL.out; omega)).mono ?_
    rintro e w2 ⟨v, rfl, hv, hb2⟩
    go_wp2
    go_ret
    exact ⟨_, rfl, by rw [HMV.out]; exact hv, Below.call HB0.out (Below.call HB1.out hb2)⟩
  · have HMV := Lib.hid (show M = [] by rw [HMU.out, if_neg h])
    rw [decide_eq_false h] at HMY
    clear h
    go_enter Tryz.func12, Tryz.ntmps12
    go_wp2_with fail
    rw [← hw0]
    clear hw0
    refine HMY.out.mono ?_
    rintro e w1 ⟨rfl, hb1⟩
    go_wp2
    go_ret
    exact ⟨_, rfl, by rw [HMV.out]; exact Lk.IsL.nil _ _ _ _, Below.call HB0.out hb1⟩
end Go.Proofs.YtmecohdedghiaaaGreatDoor
namespace Go.Proofs.YtmecohdedghiaaaGreatDoor
open Go.RowKit
theorem pt_1 {r : Rq} (h : r.k = 1) : ptL r = Two.mk r.il := by
  unfold ptL nmL
  rw [if_pos (.inl h), List.map_map]
  congr 1
  exact List.map_id _
theorem pt_9 {r : Rq} (h : r.k = 9 ∨ r.k = 10) : ptL r = [r.a] := by
  unfold ptL nmL
  rw [if_neg (by omega), if_neg (by omega), if_pos (by omega)]
  rfl
set_option maxRecDepth 100000 in
set_option maxHeartbeats 4000000 in
theorem locks_any (d : Dk) (r : Rq) (ov : Value) (own : List Int) (hand : Int) (w : World) (hd : d.In w w.heap.size) (hr : r.In w w.heap.size) (hT : Nn.Tab w) (ho : KI.IsL w w.heap.size ov own) (hol : own.length ≤ 1000) (hh : fits hand) : Calls Tryz.prog 14 #[d.v, r.val, ov, .int .i64 hand] w fun e w' => ∃ v, e = .returned v ∧ KI.IsL w' w'.heap.size v (lkW d r own hand) ∧ Below w.heap.size w w' := by
  obtain ⟨w0, hw0⟩ : ∃ w0, w0 = (w.alloc (.cells #[.slice d.bA d.bn d.bc, .slice d.pA d.pn d.pc, .slice d.rA d.rn d.rc, .int .i64 d.arms] 26)).alloc (.cells r.ob 30) := ⟨_, rfl⟩
  have HB0 := Lib.hid (show Below w.heap.size w w0 by rw [hw0]; exact Below.al (Below.al (Below.refl _ _) _) _)
  have HD0 := Lib.hid (hd.then HB0.out)
  have HR0 := Lib.hid (hr.then HB0.out)
  have HS0 := Lib.hid (show w0.heap.size = w.heap.size + 2 by rw [hw0]; simp)
  have HK0 := Lib.hid (show DkAt w0 w.heap.size d by rw [hw0]; exact (Cells4.new w _ _ _ _ _).below (Below.al (Below.refl _ _) _))
  have HQ0 := Lib.hid (show RqAt w0 (w.heap.size + 1) r by
    have h := Cells6.new (w.alloc (.cells #[.slice d.bA d.bn d.bc, .slice d.pA d.pn d.pc, .slice d.rA d.rn d.rc, .int .i64 d.arms] 26)) 30 (.int .i64 r.k) (.slice r.iA r.il.length r.ic) (.int .i64 r.a) (.int .i64 r.b) (.int .i64 r.u) (.int .u64 r.v)
    rw [World.size_alloc] at h
    rw [hw0]; exact h)
  have HMY := Lib.hid (may_any d r w0 HD0.out HR0.out (hT.below HB0.out))
  have HMU := Lib.hid (show lkW d r own hand = if refV d r = (0, 0) then (if r.k = 1 then Two.mk r.il else if r.k = 3 then Two.mk own else if r.k = 8 then (if hand < 0 then [] else [hand]) else if r.k = 9 ∨ r.k = 10 then [r.a] else muL d r) else [] from rfl)
  have HMS := Lib.hid (fun w h1 h2 h3 => must_any d r w h1 h2 h3)
  have HPS := Lib.hid (fun w h1 h2 => partsW_any r w h1 h2)
  have HLL := Lib.hid (fun h : refV d r = (0, 0) => mf_len (mf_0 h))
  have HP1 := Lib.hid (fun h => pt_1 (r := r) h)
  have HP9 := Lib.hid (fun h => pt_9 (r := r) h)
  have HO := Lib.hid (ho.then HB0.out)
  have HOL := Lib.hid hol
  have HH := Lib.hid hh
  obtain ⟨V, hV⟩ : ∃ V, refV d r = V := ⟨_, rfl⟩
  rw [hV] at HMY HMU HLL
  obtain ⟨M, hM⟩ : ∃ M, lkW d r own hand = M := ⟨_, rfl⟩
  rw [hM] at HMU ⊢
  clear hd hr hT hV hM ho hol hh
  by_cases h : V = (0, 0)
  case neg =>
    have HMV := Lib.hid (show M = [] by rw [HMU.out, if_neg h])
    rw [decide_eq_false h] at HMY
    clear h
    go_enter Tryz.func14, Tryz.ntmps14
    go_wp2_with fail
    rw [← hw0]
    clear hw0
    refine HMY.out.mono ?_
    rintro e w1 ⟨rfl, hb1⟩
    go_wp2
    go_ret
    exact ⟨_, rfl, by rw [HMV.out]; exact Lk.IsL.nil _ _ _ _, Below.call HB0.out hb1⟩
  have HMV := Lib.hid (show M = if r.k = 1 then Two.mk r.il else if r.k = 3 then Two.mk own else if r.k = 8 then (if hand < 0 then [] else [hand]) else if r.k = 9 ∨ r.k = 10 then [r.a] else muL d r by rw [HMU.out, if_pos h])
  have HL := Lib.hid (HLL.out h)
  rw [decide_eq_true h] at HMY
  have hk : ((r.k == 1) = true ∨ ((r.k == 1) = false ∧ ((r.k == 9) = true ∨ ((r.k == 9) = false ∧ (r.k == 10) = true)))) ∨ ((r.k == 1) = false ∧ (r.k == 9) = false ∧ (r.k == 10) = false ∧ (r.k == 3) = true) ∨ ((r.k == 1) = false ∧ (r.k == 9) = false ∧ (r.k == 10) = false ∧ (r.k == 3) = false ∧ (r.k == 8) = true) ∨ ((r.k == 1) = false ∧ (r.k == 9) = false ∧ (r.k == 10) = false ∧ (r.k == 3) = false ∧ (r.k == 8) = false) := by
    simp only [kEq, decide_eq_true_eq, decide_eq_false_iff_not]; omega
  clear h HMU
  go_enter Tryz.func14, Tryz.ntmps14
  go_wp2_with fail
  rw [← hw0]
  clear hw0
  refine HMY.out.mono ?_
  rintro e w1 ⟨rfl, hb1⟩
  have HB1 := Lib.hid hb1
  have HO1 := Lib.hid (HO.out.then hb1)
  obtain ⟨q0, q1, q2, q3, q4, q5, -⟩ := HQ0.out.below hb1
  obtain ⟨d0, d1, d2, d3, -⟩ := HK0.out.below hb1
  clear hb1
  rcases hk with hk | ⟨k1, k9, k10, k3⟩ | ⟨k1, k9, k10, k3, k8⟩ | ⟨k1, k9, k10, k3, k8⟩
  · have HM2 := Lib.hid (show M = ptL r by
      simp only [kEq, decide_eq_true_eq, decide_eq_false_iff_not] at hk
      rw [HMV.out]
      by_cases h1 : r.k = 1
      · rw [if_pos h1, HP1.out h1]
      · rw [if_neg h1, if_neg (by omega), if_neg (by omega), if_pos (by omega), HP9.out (by omega)])
    rcases hk with k1 | ⟨k1, k9 | ⟨k9, k10⟩⟩
    all_goals
      go_wp2_with fail
      refine (HPS.out w1 (HR0.out.then HB1.out) (by have := HL.out; omega)).mono ?_
      rintro e w2 ⟨v, rfl, hv, hb2⟩
      go_wp2
      go_ret
      exact ⟨_, rfl, by rw [HM2.out]; exact hv, Below.call HB0.out (Below.call HB1.out hb2)⟩
  · have HM2 := Lib.hid (show M = Two.mk own by
      simp only [kEq, decide_eq_true_eq, decide_eq_false_iff_not] at k1 k9 k10 k3
      rw [HMV.out, if_neg k1, if_pos k3])
    go_wp2_with fail
    refine (Two.from_any _ own w1 (two_of HO1.out) HOL.out).mono ?_
    rintro e w2 ⟨v, rfl, hv, hb2⟩
    go_wp2
    go_ret
    exact ⟨_, rfl, by rw [HM2.out]; exact of_two hv, Below.call HB0.out (Below.call HB1.out hb2)⟩
  · by_cases hn : hand < 0
    · have HM2 := Lib.hid (show M = [] by
        simp only [kEq, decide_eq_true_eq, decide_eq_false_iff_not] at k1 k9 k10 k3 k8
        rw [HMV.out, if_neg k1, if_neg k3, if_pos k8, if_pos hn])
      go_wp2
      go_ret
      exact ⟨_, rfl, by rw [HM2.out]; exact Lk.IsL.nil _ _ _ _, Below.call HB0.out HB1.out⟩
    · have HM2 := Lib.hid (show M = [hand] by
        simp only [kEq, decide_eq_true_eq, decide_eq_false_iff_not] at k1 k9 k10 k3 k8
        rw [HMV.out, if_neg k1, if_neg k3, if_pos k8, if_neg hn])
      go_wp2
      go_ret
      refine ⟨_, rfl, ?_, Below.al (Below.call HB0.out HB1.out) _⟩
      rw [HM2.out, World.size_alloc]
      exact Lk.IsL.lit (K := KI) w1 hand #[.int .i64 hand] HH.out rfl w1.heap.size rfl
  · have HM2 := Lib.hid (show M = muL d r by
      simp only [kEq, decide_eq_false_iff_not] at k1 k9 k10 k3 k8
      rw [HMV.out, if_neg k1, if_neg k3, if_neg k8, if_neg (by omega)])
    go_wp2_with fail
    refine (HMS.out w1 (HD0.out.then HB1.out) (HR0.out.then HB1.out) (by have := HL.out; omega)).mono ?_
    rintro e w2 ⟨v, rfl, hv, hb2⟩
    go_wp2
    go_ret
    exact ⟨_, rfl, by rw [HM2.out]; exact hv, Below.call HB0.out (Below.call HB1.out hb2)⟩
end Go.Proofs.YtmecohdedghiaaaGreatDoor
namespace Go.Proofs.YtmecohdedghiaaaGreatDoor
open Go.RowKit
theorem sameList0_any (w : World) : Calls Tryz.prog 75 #[.slice none 0 0, .slice none 0 0] w fun e w' => e = .returned (.bool true) ∧ w = w' := by
  go_enter Tryz.func75, Tryz.ntmps75
  go_wp2
  go_loopw [5] (fun i wr => i = .int .i64 0 ∧ w = wr) (fun _ _ => 0)
  case atStart => exact ⟨rfl, rfl⟩
  case round =>
    obtain ⟨rfl, rfl⟩ := hrel
    go_wp2
    go_ret
    exact ⟨rfl, rfl⟩
set_option maxRecDepth 100000 in
set_option maxHeartbeats 4000000 in
theorem same15_any (p q : Int × Int) (w : World) : Calls Tryz.prog 30 #[rsv p, rsv q] w fun e w' => e = .returned (.bool (decide (p = q))) ∧ Below w.heap.size w w' := by
  obtain ⟨p1, p2⟩ := p
  obtain ⟨q1, q2⟩ := q
  unfold rsv
  dsimp only
  by_cases h1 : p1 = q1
  · by_cases h2 : p2 = q2
    · go_enter Tryz.func30, Tryz.ntmps30
      go_wp2_with fail
      refine (sameList0_any _).mono ?_
      rintro e w1 ⟨rfl, rfl⟩
      go_wp2
      go_ret
      exact ⟨ret_b (by rw [h1, h2]; simp), Below.al (Below.al (Below.refl _ _) _) _⟩
    · go_enter Tryz.func30, Tryz.ntmps30
      go_wp2
      go_ret
      exact ⟨ret_b (by simp [h2]), Below.al (Below.al (Below.refl _ _) _) _⟩
  · go_enter Tryz.func30, Tryz.ntmps30
    go_wp2
    go_ret
    exact ⟨ret_b (by simp [h1]), Below.al (Below.al (Below.refl _ _) _) _⟩
end Go.Proofs.YtmecohdedghiaaaGreatDoor
namespace Go.Proofs.YtmecohdedghiaaaGreatDoor
open Go.RowKit
noncomputable def kdV (d : Dk) (id : Int) : Int := if (partV d id).2 = 0 then (partV d id).1.a else 0
theorem kd_pos (d : Dk) (id : Int) (h : (partV d id).2 = 0) : (partV d id).1.a = 1 ∨ (partV d id).1.a = 2 ∨ (partV d id).1.a = 3 := by
  unfold partV at h ⊢
  by_cases hz : dchk d = 0
  · rw [if_pos hz] at h ⊢
    obtain ⟨A, B, C, e, -, -, kA, kB, kC⟩ := parts_split d (dchk_ok d hz)
    unfold partR at h ⊢
    by_cases h0 : id < 0 ∨ ((partsL d).length : Int) ≤ id
    · rw [if_pos h0] at h; exact absurd h (by show ¬ (3 : Int) = 0; decide)
    · rw [if_neg h0]
      have hm : (partsL d).getD id.toNat ⟨0, 0, 0, 0⟩ ∈ partsL d := getD_mem' _ _ _ (by omega)
      rw [e] at hm
      rw [← e] at hm
      have hm2 : (partsL d).getD id.toNat ⟨0, 0, 0, 0⟩ ∈ A ++ (B ++ C) := by rw [← e]; exact hm
      rcases List.mem_append.1 hm2 with h | h
      · exact .inl (kA _ h)
      rcases List.mem_append.1 h with h | h
      · exact .inr (.inl (kB _ h))
      · exact .inr (.inr (kC _ h))
  · rw [if_neg hz] at h
    exact absurd h hz
theorem iw_0 (d : Dk) (id : Int) : iwP d 0 id = !(kdV d id == 0) := by
  unfold iwP kdV
  by_cases h : (partV d id).2 = 0
  · have hp := kd_pos d id h
    rw [if_pos h, decide_eq_true h]
    have : ((partV d id).1.a == 0) = false := by rw [beq_eq_false_iff_ne]; omega
    rw [this]; rfl
  · rw [if_neg h, decide_eq_false h]; rfl
theorem iw_k (d : Dk) (k id : Int) (hk : k = 1 ∨ k = 2) : iwP d k id = (kdV d id == k) := by
  unfold iwP kdV
  have h0 : decide (k = 0) = false := decide_eq_false (by omega)
  rw [h0, Bool.false_or]
  by_cases h : (partV d id).2 = 0
  · rw [if_pos h, decide_eq_true h, Bool.true_and, kEq]
  · rw [if_neg h, decide_eq_false h, Bool.false_and, kEq]
    exact (decide_eq_false (by omega)).symm
theorem no_any (e id : Int) (w : World) : Calls Tryz.prog 83 #[.int .i64 e, .int .i64 id] w fun e' w' => e' = .returned (rsv (e, id)) ∧ Below w.heap.size w w' := by
  go_enter Tryz.func83, Tryz.ntmps83
  go_wp2
  refine bodyPost_ret (v := rsv (e, id)) ?_ rfl ⟨rfl, ?_⟩
  · simp [results, Tryz.results83, go_sem, rsv]
  · repeat (first | exact Below.refl _ _ | refine Below.al ?_ _ | refine Below.st ?_ (by simp))
set_option maxRecDepth 100000 in
set_option maxHeartbeats 4000000 in
theorem kind_any (d : Dk) (id : Int) (hid : fits id) (w : World) (hd : d.In w w.heap.size) : Calls Tryz.prog 86 #[d.v, .int .i64 id] w fun e w' => e = .returned (.int .i64 (kdV d id)) ∧ Below w.heap.size w w' := by
  obtain ⟨w0, hw0⟩ : ∃ w0, w0 = w.alloc (.cells #[.slice d.bA d.bn d.bc, .slice d.pA d.pn d.pc, .slice d.rA d.rn d.rc, .int .i64 d.arms] 26) := ⟨_, rfl⟩
  have HB0 := Lib.hid (show Below w.heap.size w w0 by rw [hw0]; exact Below.al (Below.refl _ _) _)
  have HP := Lib.hid (rpart_any d id hid w0 (hd.then HB0.out))
  have e : kdV d id = if (partV d id).2 = 0 then (partV d id).1.a else 0 := rfl
  generalize partV d id = t at *
  obtain ⟨⟨qa, qb, qc, qd⟩, er⟩ := t
  rw [e]
  clear e hd
  unfold partVal at HP
  dsimp only at HP ⊢
  by_cases h0 : er = 0
  · subst h0
    rw [if_pos rfl]
    go_enter Tryz.func86, Tryz.ntmps86
    go_wp2_with fail
    rw [← hw0]
    clear hw0
    refine HP.out.mono ?_
    rintro e w1 ⟨rfl, hb1⟩
    have HB1 := Lib.hid (Below.call HB0.out hb1)
    clear hb1
    go_wp2
    go_ret
    exact ⟨rfl, by first | exact Below.al HB1.out _ | (exact Below.al (Below.al HB1.out _) _)⟩
  · rw [if_neg h0]
    have h0' : (er != 0) = true := by simpa using h0
    clear h0
    go_enter Tryz.func86, Tryz.ntmps86
    go_wp2_with fail
    rw [← hw0]
    clear hw0
    refine HP.out.mono ?_
    rintro e w1 ⟨rfl, hb1⟩
    have HB1 := Lib.hid (Below.call HB0.out hb1)
    clear hb1
    go_wp2
    go_ret
    exact ⟨rfl, by first | exact Below.al HB1.out _ | (exact Below.al (Below.al HB1.out _) _)⟩
def nm0 (k : Int) : Bool := decide (k = 1 ∨ k = 2)
def nm1 (k : Int) : Bool := decide (k = 4 ∨ k = 5 ∨ k = 6 ∨ k = 7 ∨ k = 9 ∨ k = 10)
def nm2 (k : Int) : Bool := decide (k = 4)
def nm3 (k : Int) : Bool := decide (k = 10)
def nm4 (k : Int) : Bool := decide (k = 4 ∨ k = 5 ∨ k = 6)
set_option maxRecDepth 100000 in
set_option maxHeartbeats 4000000 in
theorem names_any (k : Int) (w : World) : Calls Tryz.prog 84 #[.int .i64 k] w fun e w' => e = .returned (.agg #[.bool (nm0 k), .bool (nm1 k), .bool (nm2 k), .bool (nm3 k), .bool (nm4 k)]) ∧ Below w.heap.size w w' := by
  rcases kinds k with rfl | rfl | rfl | rfl | rfl | rfl | rfl | rfl | ⟨k1, k2, k4, k5, k6, k7, k9, k10⟩
  all_goals
    go_enter Tryz.func84, Tryz.ntmps84
    go_wp2
    refine bodyPost_ret (v := .agg #[.bool (nm0 _), .bool (nm1 _), .bool (nm2 _), .bool (nm3 _), .bool (nm4 _)]) ?_ rfl ⟨rfl, ?_⟩
    · first
        | (simp [results, Tryz.results84, go_sem, nm0, nm1, nm2, nm3, nm4]; done)
        | (simp only [beq_eq_false_iff_ne, ne_eq] at k1 k2 k4 k5 k6 k7 k9 k10; simp [results, Tryz.results84, go_sem, nm0, nm1, nm2, nm3, nm4, k1, k2, k4, k5, k6, k7, k9, k10])
    · repeat (first | exact Below.refl _ _ | refine Below.al ?_ _ | refine Below.st ?_ (by simp))
end Go.Proofs.YtmecohdedghiaaaGreatDoor
namespace Go.Proofs.YtmecohdedghiaaaGreatDoor
open Go.RowKit
noncomputable def idsV (d : Dk) (l : List Int) : Int × Int := if mbV l ≠ (0, 0) then mbV l else match l.find? (fun x => !iwP d 0 x) with | some x => (3, x) | none => (0, 0)
set_option maxRecDepth 100000 in
set_option maxHeartbeats 4000000 in
theorem ids_any (d : Dk) (v : Value) (l : List Int) (w : World) (hd : d.In w w.heap.size) (hv : KI.IsL w w.heap.size v l) : Calls Tryz.prog 85 #[d.v, v] w fun e w' => e = .returned (rsv (idsV d l)) ∧ Below w.heap.size w w' := by
  obtain ⟨A, c, rfl, hc⟩ := hv.shape
  obtain ⟨w0, hw0⟩ : ∃ w0, w0 = (w.alloc (.cells #[.slice d.bA d.bn d.bc, .slice d.pA d.pn d.pc, .slice d.rA d.rn d.rc, .int .i64 d.arms] 26)).alloc (.cells #[.int .i64 0, .int .i64 0, .int .i64 0, .int .i64 0, .slice none 0 0] 56) := ⟨_, rfl⟩
  have HB0 := Lib.hid (show Below w.heap.size w w0 by rw [hw0]; exact Below.al (Below.al (Below.refl _ _) _) _)
  have HD0 := Lib.hid (hd.then HB0.out)
  have HV0 := Lib.hid (hv.then HB0.out)
  have HK0 := Lib.hid (show DkAt w0 w.heap.size d by rw [hw0]; exact (Cells4.new w _ _ _ _ _).below (Below.al (Below.refl _ _) _))
  have HC0 := Lib.hid (show Cells5 w0 (w.heap.size + 1) (.int .i64 0) (.int .i64 0) (.int .i64 0) (.int .i64 0) (.slice none 0 0) by
    have h := Cells5.new (w.alloc (.cells #[.slice d.bA d.bn d.bc, .slice d.pA d.pn d.pc, .slice d.rA d.rn d.rc, .int .i64 d.arms] 26)) 56 (.int .i64 0) (.int .i64 0) (.int .i64 0) (.int .i64 0) (.slice none 0 0)
    rw [World.size_alloc] at h
    rw [hw0]; exact h)
  have HCL := Lib.hid (show w.heap.size + 1 < w0.heap.size by rw [hw0]; simp)
  have HDL := Lib.hid (show w.heap.size < w0.heap.size by have := HCL.out; omega)
  have HVV := Lib.hid (show idsV d l = if mbV l ≠ (0, 0) then mbV l else match l.find? (fun x => !iwP d 0 x) with | some x => (3, x) | none => (0, 0) from rfl)
  have HM := Lib.hid (show mbV l = if l = [] then (1, 0) else if 16 < l.length then (2, 0) else if 0 ≤ twV l then (152, l.getD (twV l).toNat 0) else (0, 0) from rfl)
  have HTW := Lib.hid (fun t => twV_eq (l := l) (t := t))
  have HKD := Lib.hid (fun id h w h2 => kind_any d id h w h2)
  have HRF := Lib.hid (Below.refl w0.heap.size w0)
  obtain ⟨V, hV⟩ : ∃ V, idsV d l = V := ⟨_, rfl⟩
  rw [hV] at HVV ⊢
  clear hd hv hV
  by_cases h0 : l = []
  · subst h0
    have HE := Lib.hid (show V = (1, 0) by rw [HVV.out, HM.out]; rfl)
    go_enter Tryz.func85, Tryz.ntmps85
    go_wp2_with fail
    rw [← hw0]
    clear hw0
    refine (no_any 1 0 _).mono ?_
    rintro e wn ⟨rfl, hbn⟩
    obtain ⟨c0, c1, c2, c3, c4, y0, y1, y2, y3, y4, -⟩ := HC0.out.low (HRF.out.trans (hbn.mono HRF.out.size)) HCL.out
    have HBN := Lib.hid (Below.call (Below.call HB0.out HRF.out) hbn)
    clear hbn
    unfold rsv
    go_wp2
    refine bodyPost_ret (v := rsv (1, 0)) ?_ rfl ⟨by rw [HE.out], ?_⟩
    · simp [results, Tryz.results85, go_sem, rsv, c0, c1, c2, c3, c4]
    · refine Below.st (Below.st (Below.st (Below.st (Below.st HBN.out ?_) ?_) ?_) ?_) ?_ <;> simp
  have hl0 : ((l.length : Int) == 0) = false := by simpa using h0
  by_cases h1 : 16 < l.length
  · have HE := Lib.hid (show V = (2, 0) by rw [HVV.out, HM.out, if_neg h0, if_pos h1]; rfl)
    clear h0
    go_enter Tryz.func85, Tryz.ntmps85
    go_wp2_with fail
    rw [← hw0]
    clear hw0
    refine (no_any 2 0 _).mono ?_
    rintro e wn ⟨rfl, hbn⟩
    obtain ⟨c0, c1, c2, c3, c4, y0, y1, y2, y3, y4, -⟩ := HC0.out.low (HRF.out.trans (hbn.mono HRF.out.size)) HCL.out
    have HBN := Lib.hid (Below.call (Below.call HB0.out HRF.out) hbn)
    clear hbn
    unfold rsv
    go_wp2
    refine bodyPost_ret (v := rsv (2, 0)) ?_ rfl ⟨by rw [HE.out], ?_⟩
    · simp [results, Tryz.results85, go_sem, rsv, c0, c1, c2, c3, c4]
    · refine Below.st (Below.st (Below.st (Below.st (Below.st HBN.out ?_) ?_) ?_) ?_) ?_ <;> simp
  have HN0 := Lib.hid h0
  clear h0
  go_enter Tryz.func85, Tryz.ntmps85
  go_wp2_with fail
  rw [← hw0]
  clear hw0
  refine (Two.rtwice_any _ l w0 (two_of HV0.out)).mono ?_
  rintro e w1 ⟨⟨t, rfl, ht⟩, dd, hdd⟩
  have HB1 := Lib.hid (show Below w0.heap.size w0 w1 by rw [hdd]; exact below_drewN (Below.refl _ _) _)
  clear hdd
  have ht0 := HTW.out t ht
  have HM1 := Lib.hid (show mbV l = if 0 ≤ t then (152, l.getD t.toNat 0) else (0, 0) by rw [HM.out, if_neg HN0.out, if_neg h1, ht0])
  clear HTW ht0 HM
  by_cases h2 : 0 ≤ t
  · obtain ⟨i, hi, rfl⟩ : ∃ i : Nat, i < l.length ∧ t = i := by
      rcases ht with ⟨rfl, _⟩ | ⟨i, hi, rfl, _⟩
      · omega
      · exact ⟨i, hi, rfl⟩
    have HE := Lib.hid (show V = (152, l.getD i 0) by rw [HVV.out, HM1.out, if_pos h2, Int.toNat_natCast, if_pos (by intro h; injection h with h _; exact absurd h (by decide))])
    obtain ⟨b, off, cap, hA, hcap, hb, hlm, hcell, hfit⟩ := KI.cells (HV0.out.below HB1.out) (show 0 < l.length by omega)
    have hci := hcell i hi
    injection hA with hA1 hA2 hA3
    subst hA1
    obtain ⟨x, hx⟩ : ∃ x, l.getD i 0 = x := ⟨_, rfl⟩
    rw [hx] at HE hci
    clear ht hcell hfit hA2 hA3 h2 hx
    go_wp2_with fail
    refine (no_any 152 x _).mono ?_
    rintro e wn ⟨rfl, hbn⟩
    obtain ⟨c0, c1, c2, c3, c4, y0, y1, y2, y3, y4, -⟩ := HC0.out.low (HB1.out.trans (hbn.mono HB1.out.size)) HCL.out
    have HBN := Lib.hid (Below.call (Below.call HB0.out HB1.out) hbn)
    clear hbn
    unfold rsv
    go_wp2
    refine bodyPost_ret (v := rsv (152, x)) ?_ rfl ⟨by rw [HE.out], ?_⟩
    · simp [results, Tryz.results85, go_sem, rsv, c0, c1, c2, c3, c4]
    · refine Below.st (Below.st (Below.st (Below.st (Below.st HBN.out ?_) ?_) ?_) ?_) ?_ <;> simp
  have HMZ := Lib.hid (show mbV l = (0, 0) by rw [HM1.out, if_neg h2])
  have HE := Lib.hid (show V = match l.find? (fun x => !iwP d 0 x) with | some x => (3, x) | none => (0, 0) by rw [HVV.out, HMZ.out]; rfl)
  clear ht HVV
  go_wp2_with fail
  go_loopw [6] (fun i wr => ∃ k : Nat, k ≤ l.length ∧ i = .int .i64 k ∧ (∀ j, j < k → iwP d 0 (l.getD j 0) = true) ∧ Below w0.heap.size w0 wr) (fun i _ => l.length - (intOf i).toNat)
  case atStart => exact ⟨0, Nat.zero_le _, rfl, fun j hj => absurd hj (by omega), HB1.out⟩
  case round =>
    obtain ⟨k, hk, rfl, hal, hbl⟩ := hrel
    have HAL := Lib.hid hal
    have HBL := Lib.hid hbl
    clear hal hbl
    by_cases hlt : k < l.length
    · obtain ⟨b, off, cap, hA, hcap, hb, hlm, hcell, hfit⟩ := KI.cells (HV0.out.below HBL.out) (show 0 < l.length by omega)
      have hci := hcell k hlt
      have HKX := Lib.hid (HKD.out (l.getD k 0) (hfit k hlt))
      have HI0 := Lib.hid (iw_0 d (l.getD k 0))
      obtain ⟨d0, d1, d2, d3, -⟩ := HK0.out.low HBL.out HDL.out
      injection hA with hA1 hA2 hA3
      subst hA1
      obtain ⟨x, hx⟩ : ∃ x, l.getD k 0 = x := ⟨_, rfl⟩
      have HX := Lib.hid hx
      rw [hx] at hci HKX HI0
      clear hcell hfit hA2 hA3 hx
      go_wp2_with fail
      go_still_tail 5, (by kernel_rfl)
      change wpList _ _ _ _ _ wr.drew
      have HBD := Lib.hid (show Below w0.heap.size w0 wr.drew from below_drewN HBL.out 1)
      have hcd : wr.drew.cell? ⟨b, off + k, none⟩ = some (.int .i64 x) := hci
      generalize wr.drew = wd at *
      have HKW := Lib.hid (HKX.out wd (HD0.out.then HBD.out))
      obtain ⟨bb, hbb⟩ : ∃ bb, iwP d 0 x = bb := ⟨_, rfl⟩
      have HBB := Lib.hid hbb
      rw [hbb] at HI0
      clear hbb d0 d1 d2 d3
      generalize kdV d x = kx at *
      cases bb
      case true =>
        have hkx : (kx == 0) = false := by have h := HI0.out; simpa using h
        go_wp2_with (go_at_call 86; refine HKW.out.mono ?_; rintro e w2 ⟨rfl, hb2⟩; have HB2 := Lib.hid (Below.call HBD.out hb2); clear hb2)
        go_roundw
        case rel => exact ⟨k + 1, by omega, num_i (by omega), fun j hj => by
          by_cases h : j < k
          · exact HAL.out j h
          · obtain rfl : j = k := by omega
            rw [HX.out]; exact HBB.out, HB2.out⟩
        case measure => simp [intOf]; omega
      case false =>
        have hkx : (kx == 0) = true := by have h := HI0.out; simpa using h
        have HE2 := Lib.hid (show V = (3, x) by
          have hn : l.find? (fun x => !iwP d 0 x) = some x := find_pre _ l (l.take k) x (by rw [← HX.out, ← take_snoc l k 0 hlt]; exact List.take_prefix _ _) (fun p hp => by
            obtain ⟨j, hj, rfl⟩ := List.mem_iff_getElem.1 hp
            have hj2 : j < k := by simp at hj; omega
            have := HAL.out j hj2
            rw [List.getElem_take]
            rw [List.getD_eq_getElem?_getD, List.getElem?_eq_getElem (by omega)] at this
            simpa using this) (by rw [HBB.out]; rfl)
          rw [HE.out, hn])
        go_wp2_with (go_at_call 86; refine HKW.out.mono ?_; rintro e w2 ⟨rfl, hb2⟩; have hc2 := keep_cell hb2 hcd; have HB2 := Lib.hid (Below.call HBD.out hb2); clear hb2)
        refine (no_any 3 x _).mono ?_
        rintro e wn ⟨rfl, hbn⟩
        obtain ⟨c0, c1, c2, c3, c4, y0, y1, y2, y3, y4, -⟩ := HC0.out.low (HB2.out.trans (hbn.mono HB2.out.size)) HCL.out
        have HBN := Lib.hid (Below.call (Below.call HB0.out HB2.out) hbn)
        clear hbn
        unfold rsv
        go_wp2
        refine bodyPost_ret (v := rsv (3, x)) ?_ rfl ⟨by rw [HE2.out], ?_⟩
        · simp [results, Tryz.results85, go_sem, rsv, c0, c1, c2, c3, c4]
        · refine Below.st (Below.st (Below.st (Below.st (Below.st HBN.out ?_) ?_) ?_) ?_) ?_ <;> simp
    · obtain rfl : k = l.length := by omega
      have HE2 := Lib.hid (show V = (0, 0) by
        have hn : l.find? (fun x => !iwP d 0 x) = none := List.find?_eq_none.2 fun y hy => by
          obtain ⟨j, hj, rfl⟩ := List.mem_iff_getElem.1 hy
          have := HAL.out j hj
          rw [List.getD_eq_getElem?_getD, List.getElem?_eq_getElem hj] at this
          simpa using this
        rw [HE.out, hn])
      obtain ⟨c0, c1, c2, c3, c4, y0, y1, y2, y3, y4, -⟩ := HC0.out.low HBL.out HCL.out
      go_wp2
      refine bodyPost_ret (v := rsv (0, 0)) ?_ rfl ⟨by rw [HE2.out], ?_⟩
      · simp [results, Tryz.results85, go_sem, rsv, c0, c1, c2, c3, c4]
      · refine Below.st (Below.st (Below.st (Below.st (Below.st (Below.call HB0.out HBL.out) ?_) ?_) ?_) ?_) ?_ <;> simp
end Go.Proofs.YtmecohdedghiaaaGreatDoor
