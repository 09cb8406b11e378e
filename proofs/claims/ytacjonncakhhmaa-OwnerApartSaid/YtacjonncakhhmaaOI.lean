/- Owners: what must come of every program. -/
import Derived.Test.YtacjonncakhhmaaOH
import Derived.Test.YtacjonncakhhmaaTC
namespace Go.Proofs.Ytacjonncakhhmaa
open Go.RowKit
/-- A literal list in a new block, read in the world behind it. -/
theorem KI.lit1 (w : World) (xs : List Int) (cs : Array Value) (hx : ∀ x ∈ xs, fits x) (hcs : cs = (KI.flat xs).toArray) (hl : xs.length ≤ 9223372036854775807) :
    KI.IsL (w.alloc (.cells cs 3)) (w.alloc (.cells cs 3)).heap.size (.slice (some ⟨w.heap.size, 0, none⟩) xs.length xs.length) xs := by
  have := Lk.IsL.lits (K := KI) w xs cs hx hcs hl w.heap.size rfl
  rw [show (w.alloc (.cells cs 3)).heap.size = w.heap.size + 1 by simp]
  exact this
set_option maxRecDepth 100000 in
set_option maxHeartbeats 4000000 in
theorem lives14 (w : World) : Calls Try.prog 27 #[] w fun e w' => e = .returned (.bool true) ∧ Below w.heap.size w w' := by
  go_enter Try.func27, Try.ntmps27
  obtain ⟨k1, hk1⟩ : ∃ W, W = ((w.alloc (.cells #[.int .i64 0, .int .i64 2, .int .i64 0] 3)).alloc (.cells #[.int .i64 0, .int .i64 2] 3)) := ⟨_, rfl⟩
  have LA := Lib.hid (show KI.IsL k1 k1.heap.size (.slice (some ⟨w.heap.size, 0, none⟩) 3 3) [0, 2, 0] by rw [hk1]; simpa using (KI.lit1 w [0, 2, 0] #[.int .i64 0, .int .i64 2, .int .i64 0] (by decide) rfl (by decide)).then (Below.al (Below.refl _ _) _))
  have LI := Lib.hid (show KI.IsL k1 k1.heap.size (.slice (some ⟨w.heap.size + 1, 0, none⟩) 2 2) [0, 2] by rw [hk1]; simpa using (KI.lit1 (w.alloc (.cells #[.int .i64 0, .int .i64 2, .int .i64 0] 3)) [0, 2] #[.int .i64 0, .int .i64 2] (by decide) rfl (by decide)).then (Below.refl _ _))
  have HBk1 := Lib.hid (show Below w.heap.size w k1 by rw [hk1]; exact (Below.al (Below.al (Below.refl _ _) _) _))
  go_wp2_with fail
  rw [← hk1]
  clear hk1
  refine (take_o _ _ [0, 2, 0] [0, 2] 1 (by decide) _ LA.out LI.out (by decide)).mono ?_
  rintro e k2 ⟨vLO, rfl, ho, hb⟩
  have HBk2 := Lib.hid hb
  have LA := Lib.hid (LA.out.then HBk2.out)
  have LI := Lib.hid (LI.out.then HBk2.out)
  have LO := Lib.hid (ho.isL (by decide))
  clear ho
  clear hb
  have HBk2t := Lib.hid (Below.call HBk1.out HBk2.out)
  rw [show psL [0, 2, 0] [0, 2] 1 (takeQ 1) 1 = [1, 2, 1] by decide +kernel] at LO
  rw [show psE [0, 2, 0] [0, 2] 1 (takeQ 1) 140 = 0 by decide +kernel, show psI [0, 2, 0] [0, 2] 1 (takeQ 1) = 0 by decide +kernel]
  obtain ⟨k3, hk3⟩ : ∃ W, W = (k2.alloc (.cells #[.int .i64 0, .int .i64 1] 3)) := ⟨_, rfl⟩
  have LJ := Lib.hid (show KI.IsL k3 k3.heap.size (.slice (some ⟨k2.heap.size, 0, none⟩) 2 2) [0, 1] by rw [hk3]; simpa using (KI.lit1 k2 [0, 1] #[.int .i64 0, .int .i64 1] (by decide) rfl (by decide)).then (Below.refl _ _))
  have HBk3 := Lib.hid (show Below k2.heap.size k2 k3 by rw [hk3]; exact (Below.al (Below.refl _ _) _))
  have LO := Lib.hid (LO.out.then HBk3.out)
  have HBk3t := Lib.hid (Below.call HBk2t.out HBk3.out)
  go_wp2_with fail
  rw [← hk3]
  clear hk3
  refine (take_o _ _ [1, 2, 1] [0, 1] 1 (by decide) _ LO.out LJ.out (by decide)).mono ?_
  rintro e k4 ⟨vLP, rfl, ho, hb⟩
  have HBk4 := Lib.hid hb
  have LO := Lib.hid (LO.out.then HBk4.out)
  have LJ := Lib.hid (LJ.out.then HBk4.out)
  have LP := Lib.hid (ho.isL (by decide))
  clear ho
  clear hb
  have HBk4t := Lib.hid (Below.call HBk3t.out HBk4.out)
  rw [show psE [1, 2, 1] [0, 1] 1 (takeQ 1) 140 = 140 by decide +kernel, show psI [1, 2, 1] [0, 1] 1 (takeQ 1) = 1 by decide +kernel]
  obtain ⟨k5, hk5⟩ : ∃ W, W = (k4.alloc (.cells #[.int .i64 2] 3)) := ⟨_, rfl⟩
  have LK := Lib.hid (show KI.IsL k5 k5.heap.size (.slice (some ⟨k4.heap.size, 0, none⟩) 1 1) [2] by rw [hk5]; simpa using (KI.lit1 k4 [2] #[.int .i64 2] (by decide) rfl (by decide)).then (Below.refl _ _))
  have HBk5 := Lib.hid (show Below k4.heap.size k4 k5 by rw [hk5]; exact (Below.al (Below.refl _ _) _))
  have LO := Lib.hid (LO.out.then HBk5.out)
  have HBk5t := Lib.hid (Below.call HBk4t.out HBk5.out)
  go_wp2_with fail
  rw [← hk5]
  clear hk5
  refine (give_o _ _ [1, 2, 1] [2] 1 _ LO.out LK.out (by decide)).mono ?_
  rintro e k6 ⟨vLG, rfl, ho, hb⟩
  have HBk6 := Lib.hid hb
  have LO := Lib.hid (LO.out.then HBk6.out)
  have LK := Lib.hid (LK.out.then HBk6.out)
  have LG := Lib.hid (ho.isL (by decide))
  clear ho
  clear hb
  have HBk6t := Lib.hid (Below.call HBk5t.out HBk6.out)
  rw [show psL [1, 2, 1] [2] 1 (giveQ 1) 0 = [1, 2, 0] by decide +kernel] at LG
  rw [show psE [1, 2, 1] [2] 1 (giveQ 1) 141 = 0 by decide +kernel, show psI [1, 2, 1] [2] 1 (giveQ 1) = 0 by decide +kernel]
  obtain ⟨k7, hk7⟩ : ∃ W, W = (k6.alloc (.cells #[.int .i64 0, .int .i64 1] 3)) := ⟨_, rfl⟩
  have LM := Lib.hid (show KI.IsL k7 k7.heap.size (.slice (some ⟨k6.heap.size, 0, none⟩) 2 2) [0, 1] by rw [hk7]; simpa using (KI.lit1 k6 [0, 1] #[.int .i64 0, .int .i64 1] (by decide) rfl (by decide)).then (Below.refl _ _))
  have HBk7 := Lib.hid (show Below k6.heap.size k6 k7 by rw [hk7]; exact (Below.al (Below.refl _ _) _))
  have LO := Lib.hid (LO.out.then HBk7.out)
  have LG := Lib.hid (LG.out.then HBk7.out)
  have HBk7t := Lib.hid (Below.call HBk6t.out HBk7.out)
  go_wp2_with fail
  rw [← hk7]
  clear hk7
  refine (lacks_o _ _ [1, 2, 1] [0, 1] 1 _ LO.out LM.out).mono ?_
  rintro e k8 ⟨rfl, hb⟩
  have HBk8 := Lib.hid hb
  have LO := Lib.hid (LO.out.then HBk8.out)
  have LG := Lib.hid (LG.out.then HBk8.out)
  have LM := Lib.hid (LM.out.then HBk8.out)
  clear hb
  have HBk8t := Lib.hid (Below.call HBk7t.out HBk8.out)
  rw [show fstN (lkB [1, 2, 1] 1) [0, 1] = (1, true) by decide +kernel]
  obtain ⟨k9, hk9⟩ : ∃ W, W = (k8.alloc (.cells #[.int .i64 1, .int .i64 2, .int .i64 1] 3)) := ⟨_, rfl⟩
  have LN := Lib.hid (show KI.IsL k9 k9.heap.size (.slice (some ⟨k8.heap.size, 0, none⟩) 3 3) [1, 2, 1] by rw [hk9]; simpa using (KI.lit1 k8 [1, 2, 1] #[.int .i64 1, .int .i64 2, .int .i64 1] (by decide) rfl (by decide)).then (Below.refl _ _))
  have HBk9 := Lib.hid (show Below k8.heap.size k8 k9 by rw [hk9]; exact (Below.al (Below.refl _ _) _))
  have LO := Lib.hid (LO.out.then HBk9.out)
  have LG := Lib.hid (LG.out.then HBk9.out)
  have HBk9t := Lib.hid (Below.call HBk8t.out HBk9.out)
  go_wp2_with fail
  rw [← hk9]
  clear hk9
  refine (Two.same_any _ _ [1, 2, 1] [1, 2, 1] _ (two_of LO.out) (two_of LN.out)).mono ?_
  rintro e wq ⟨rfl, dq, rfl⟩
  have HBk10 := Lib.hid (below_drewN (Below.refl k9.heap.size k9) dq)
  generalize k9.drewN dq = k10 at *
  have LO := Lib.hid (LO.out.then HBk10.out)
  have LG := Lib.hid (LG.out.then HBk10.out)
  have LN := Lib.hid (LN.out.then HBk10.out)
  have HBk10t := Lib.hid (Below.call HBk9t.out HBk10.out)
  obtain ⟨k11, hk11⟩ : ∃ W, W = (k10.alloc (.cells #[.int .i64 1, .int .i64 2, .int .i64 0] 3)) := ⟨_, rfl⟩
  have LQ := Lib.hid (show KI.IsL k11 k11.heap.size (.slice (some ⟨k10.heap.size, 0, none⟩) 3 3) [1, 2, 0] by rw [hk11]; simpa using (KI.lit1 k10 [1, 2, 0] #[.int .i64 1, .int .i64 2, .int .i64 0] (by decide) rfl (by decide)).then (Below.refl _ _))
  have HBk11 := Lib.hid (show Below k10.heap.size k10 k11 by rw [hk11]; exact (Below.al (Below.refl _ _) _))
  have LO := Lib.hid (LO.out.then HBk11.out)
  have LG := Lib.hid (LG.out.then HBk11.out)
  have HBk11t := Lib.hid (Below.call HBk10t.out HBk11.out)
  go_wp2_with fail
  rw [← hk11]
  clear hk11
  refine (Two.same_any _ _ [1, 2, 0] [1, 2, 0] _ (two_of LG.out) (two_of LQ.out)).mono ?_
  rintro e wq ⟨rfl, dq, rfl⟩
  have HBk12 := Lib.hid (below_drewN (Below.refl k11.heap.size k11) dq)
  generalize k11.drewN dq = k12 at *
  have LO := Lib.hid (LO.out.then HBk12.out)
  have LG := Lib.hid (LG.out.then HBk12.out)
  have LQ := Lib.hid (LQ.out.then HBk12.out)
  have HBk12t := Lib.hid (Below.call HBk11t.out HBk12.out)
  go_wp2_with fail
  refine (of_o _ [1, 2, 1] 1 _ LO.out (by decide)).mono ?_
  rintro e k13 ⟨vLF, rfl, ho, hb⟩
  have HBk13 := Lib.hid hb
  have LO := Lib.hid (LO.out.then HBk13.out)
  have LF := Lib.hid (ho.isL (by decide))
  clear ho
  clear hb
  have HBk13t := Lib.hid (Below.call HBk12t.out HBk13.out)
  rw [show ofL [1, 2, 1] 1 ([1, 2, 1] : List Int).length = [0, 2] by decide +kernel] at LF
  obtain ⟨k14, hk14⟩ : ∃ W, W = (k13.alloc (.cells #[.int .i64 0, .int .i64 2] 3)) := ⟨_, rfl⟩
  have LR := Lib.hid (show KI.IsL k14 k14.heap.size (.slice (some ⟨k13.heap.size, 0, none⟩) 2 2) [0, 2] by rw [hk14]; simpa using (KI.lit1 k13 [0, 2] #[.int .i64 0, .int .i64 2] (by decide) rfl (by decide)).then (Below.refl _ _))
  have HBk14 := Lib.hid (show Below k13.heap.size k13 k14 by rw [hk14]; exact (Below.al (Below.refl _ _) _))
  have LO := Lib.hid (LO.out.then HBk14.out)
  have LF := Lib.hid (LF.out.then HBk14.out)
  have HBk14t := Lib.hid (Below.call HBk13t.out HBk14.out)
  go_wp2_with fail
  rw [← hk14]
  clear hk14
  refine (Two.same_any _ _ [0, 2] [0, 2] _ (two_of LF.out) (two_of LR.out)).mono ?_
  rintro e wq ⟨rfl, dq, rfl⟩
  have HBk15 := Lib.hid (below_drewN (Below.refl k14.heap.size k14) dq)
  generalize k14.drewN dq = k15 at *
  have LO := Lib.hid (LO.out.then HBk15.out)
  have LF := Lib.hid (LF.out.then HBk15.out)
  have LR := Lib.hid (LR.out.then HBk15.out)
  have HBk15t := Lib.hid (Below.call HBk14t.out HBk15.out)
  go_wp2_with fail
  refine (right_o _ [1, 2, 1] _ LO.out).mono ?_
  rintro e k16 ⟨rfl, hb⟩
  have HBk16 := Lib.hid hb
  have LO := Lib.hid (LO.out.then HBk16.out)
  clear hb
  have HBk16t := Lib.hid (Below.call HBk15t.out HBk16.out)
  rw [show rgO [1, 2, 1] = true by decide +kernel]
  go_wp2_with fail
  refine (new_o 3 _).mono ?_
  rintro e k17 ⟨vLT, rfl, ho, hb⟩
  have HBk17 := Lib.hid hb
  have LT := Lib.hid (ho.isL (by decide))
  clear ho
  clear hb
  have HBk17t := Lib.hid (Below.call HBk16t.out HBk17.out)
  rw [show newO 3 = [0, 0, 0] by decide +kernel] at LT
  obtain ⟨AT, cT, rfl, _⟩ := LT.out.shape
  go_wp2
  go_ret
  exact ⟨rfl, HBk17t.out⟩
end Go.Proofs.Ytacjonncakhhmaa
