/- Mutexes: what must come of every program. -/
import Derived.Test.YtbflkdkbfidleaaUG
namespace Go.Proofs.Ytbflkdkbfidleaa
open Go.RowKit
/-- A literal list in a new block, read in the world behind it. -/
theorem KI.lit1 (w : World) (xs : List Int) (cs : Array Value) (hx : ∀ x ∈ xs, fits x) (hcs : cs = (KI.flat xs).toArray) (hl : xs.length ≤ 9223372036854775807) :
    KI.IsL (w.alloc (.cells cs 3)) (w.alloc (.cells cs 3)).heap.size (.slice (some ⟨w.heap.size, 0, none⟩) xs.length xs.length) xs := by
  have := Lk.IsL.lits (K := KI) w xs cs hx hcs hl w.heap.size rfl
  rw [show (w.alloc (.cells cs 3)).heap.size = w.heap.size + 1 by simp]
  exact this
theorem on_ex (a : Nat) (h1 : a ≠ 1) (h2 : a ≠ 2) : On (nx [1, 2, 0] [1, 0]) a := by
  refine .step a ?_
  rw [show nx [1, 2, 0] [1, 0] a = 0 from if_neg (by intro h; obtain ⟨k1, k2⟩ := h; simp only [List.length_cons, List.length_nil] at k2; omega)]
  exact .zero
theorem off_ex (a : Nat) (h : a = 1 ∨ a = 2) : ¬ On (nx [1, 2, 0] [1, 0]) a := by
  intro ho
  refine On.closed (S := fun a => a = 1 ∨ a = 2) (by omega) (fun b hb => ?_) ho h
  rcases hb with rfl | rfl
  · exact .inr (by decide +kernel)
  · exact .inl (by decide +kernel)
theorem stL_ex : stL [1, 2, 0] [1, 0] = [1, 2] := by
  have hr : (rgO [1, 2, 0] && decide (([1, 0] : List Int).length ≤ 8)) = true := by decide +kernel
  unfold stL
  rw [if_pos hr]
  have a := fun k h1 h2 => stB_false (on_ex k h1 h2)
  have c := fun k h => stB_true (off_ex k h)
  rw [stK_snoc, a 8 (by decide) (by decide), stK_snoc, a 7 (by decide) (by decide), stK_snoc, a 6 (by decide) (by decide), stK_snoc, a 5 (by decide) (by decide), stK_snoc, a 4 (by decide) (by decide), stK_snoc, a 3 (by decide) (by decide), stK_snoc, c 2 (by decide), stK_snoc, c 1 (by decide), stK_one]
  rfl
set_option maxRecDepth 100000 in
set_option maxHeartbeats 4000000 in
theorem lives17 (w : World) : Calls Try.prog 11 #[] w fun e w' => e = .returned (.bool true) ∧ Below w.heap.size w w' := by
  go_enter Try.func11, Try.ntmps11
  go_wp2_with fail
  refine (new_o 3 _).mono ?_
  rintro e k1 ⟨vLA, rfl, ho, hb⟩
  have HBk1 := Lib.hid hb
  have LA := Lib.hid (ho.isL (by decide))
  clear ho
  clear hb
  rw [show newO 3 = [0, 0, 0] by decide +kernel] at LA
  go_wp2_with fail
  refine (lock_any _ [0, 0, 0] 0 1 (by decide) _ LA.out (by decide)).mono ?_
  rintro e k2 ⟨vLB, rfl, ho, hb⟩
  have HBk2 := Lib.hid hb
  have LA := Lib.hid (LA.out.then HBk2.out)
  have LB := Lib.hid (ho.isL (by decide))
  clear ho
  clear hb
  have HBk2t := Lib.hid (Below.call HBk1.out HBk2.out)
  rw [show lkL [0, 0, 0] 0 1 = [1, 0, 0] by decide +kernel] at LB
  rw [show lkE [0, 0, 0] 0 1 = 0 by decide +kernel]
  go_wp2_with fail
  refine (lock_any _ [1, 0, 0] 1 2 (by decide) _ LB.out (by decide)).mono ?_
  rintro e k3 ⟨vLC, rfl, ho, hb⟩
  have HBk3 := Lib.hid hb
  have LB := Lib.hid (LB.out.then HBk3.out)
  have LC := Lib.hid (ho.isL (by decide))
  clear ho
  clear hb
  have HBk3t := Lib.hid (Below.call HBk2t.out HBk3.out)
  rw [show lkL [1, 0, 0] 1 2 = [1, 2, 0] by decide +kernel] at LC
  rw [show lkE [1, 0, 0] 1 2 = 0 by decide +kernel]
  go_wp2_with fail
  refine (lock_any _ [1, 2, 0] 1 1 (by decide) _ LC.out (by decide)).mono ?_
  rintro e k4 ⟨vLD, rfl, ho, hb⟩
  have HBk4 := Lib.hid hb
  have LC := Lib.hid (LC.out.then HBk4.out)
  have LD := Lib.hid (ho.isL (by decide))
  clear ho
  clear hb
  have HBk4t := Lib.hid (Below.call HBk3t.out HBk4.out)
  rw [show lkE [1, 2, 0] 1 1 = 170 by decide +kernel]
  go_wp2_with fail
  refine (unlock_any _ [1, 2, 0] 0 1 (by decide) _ LC.out (by decide)).mono ?_
  rintro e k5 ⟨vLE, rfl, ho, hb⟩
  have HBk5 := Lib.hid hb
  have LC := Lib.hid (LC.out.then HBk5.out)
  have LE := Lib.hid (ho.isL (by decide))
  clear ho
  clear hb
  have HBk5t := Lib.hid (Below.call HBk4t.out HBk5.out)
  rw [show ulL [1, 2, 0] 0 1 = [0, 2, 0] by decide +kernel] at LE
  rw [show ulE [1, 2, 0] 0 1 = 0 by decide +kernel]
  go_wp2_with fail
  obtain ⟨k6, hk6⟩ : ∃ W, W = (k5.alloc (.cells #[.int .i64 0, .int .i64 2, .int .i64 0] 3)) := ⟨_, rfl⟩
  have LF := Lib.hid (show KI.IsL k6 k6.heap.size (.slice (some ⟨k5.heap.size, 0, none⟩) 3 3) [0, 2, 0] by rw [hk6]; simpa using (KI.lit1 k5 [0, 2, 0] #[.int .i64 0, .int .i64 2, .int .i64 0] (by decide) rfl (by decide)).then (Below.refl _ _))
  have HBk6 := Lib.hid (show Below k5.heap.size k5 k6 by rw [hk6]; exact (Below.al (Below.refl _ _) _))
  have LC := Lib.hid (LC.out.then HBk6.out)
  have LE := Lib.hid (LE.out.then HBk6.out)
  have HBk6t := Lib.hid (Below.call HBk5t.out HBk6.out)
  go_wp2_with fail
  rw [← hk6]
  clear hk6
  refine (Two.same_any _ _ [0, 2, 0] [0, 2, 0] _ (two_of LE.out) (two_of LF.out)).mono ?_
  rintro e wq ⟨rfl, dq, rfl⟩
  have HBk7 := Lib.hid (below_drewN (Below.refl k6.heap.size k6) dq)
  generalize k6.drewN dq = k7 at *
  have LC := Lib.hid (LC.out.then HBk7.out)
  have LE := Lib.hid (LE.out.then HBk7.out)
  have LF := Lib.hid (LF.out.then HBk7.out)
  have HBk7t := Lib.hid (Below.call HBk6t.out HBk7.out)
  go_wp2_with fail
  refine (of_o _ [1, 2, 0] 2 _ LC.out (by decide)).mono ?_
  rintro e k8 ⟨vLG, rfl, ho, hb⟩
  have HBk8 := Lib.hid hb
  have LC := Lib.hid (LC.out.then HBk8.out)
  have LG := Lib.hid (ho.isL (by decide))
  clear ho
  clear hb
  have HBk8t := Lib.hid (Below.call HBk7t.out HBk8.out)
  rw [show ofL [1, 2, 0] 2 ([1, 2, 0] : List Int).length = [1] by decide +kernel] at LG
  obtain ⟨k9, hk9⟩ : ∃ W, W = (k8.alloc (.cells #[.int .i64 1] 3)) := ⟨_, rfl⟩
  have LH := Lib.hid (show KI.IsL k9 k9.heap.size (.slice (some ⟨k8.heap.size, 0, none⟩) 1 1) [1] by rw [hk9]; simpa using (KI.lit1 k8 [1] #[.int .i64 1] (by decide) rfl (by decide)).then (Below.refl _ _))
  have HBk9 := Lib.hid (show Below k8.heap.size k8 k9 by rw [hk9]; exact (Below.al (Below.refl _ _) _))
  have LC := Lib.hid (LC.out.then HBk9.out)
  have LG := Lib.hid (LG.out.then HBk9.out)
  have HBk9t := Lib.hid (Below.call HBk8t.out HBk9.out)
  go_wp2_with fail
  rw [← hk9]
  clear hk9
  refine (Two.same_any _ _ [1] [1] _ (two_of LG.out) (two_of LH.out)).mono ?_
  rintro e wq ⟨rfl, dq, rfl⟩
  have HBk10 := Lib.hid (below_drewN (Below.refl k9.heap.size k9) dq)
  generalize k9.drewN dq = k10 at *
  have LC := Lib.hid (LC.out.then HBk10.out)
  have LG := Lib.hid (LG.out.then HBk10.out)
  have LH := Lib.hid (LH.out.then HBk10.out)
  have HBk10t := Lib.hid (Below.call HBk9t.out HBk10.out)
  obtain ⟨k11, hk11⟩ : ∃ W, W = (k10.alloc (.cells #[.int .i64 1, .int .i64 0] 3)) := ⟨_, rfl⟩
  have LI := Lib.hid (show KI.IsL k11 k11.heap.size (.slice (some ⟨k10.heap.size, 0, none⟩) 2 2) [1, 0] by rw [hk11]; simpa using (KI.lit1 k10 [1, 0] #[.int .i64 1, .int .i64 0] (by decide) rfl (by decide)).then (Below.refl _ _))
  have HBk11 := Lib.hid (show Below k10.heap.size k10 k11 by rw [hk11]; exact (Below.al (Below.refl _ _) _))
  have LC := Lib.hid (LC.out.then HBk11.out)
  have HBk11t := Lib.hid (Below.call HBk10t.out HBk11.out)
  go_wp2_with fail
  rw [← hk11]
  clear hk11
  refine (stuck_any _ _ [1, 2, 0] [1, 0] _ LC.out LI.out).mono ?_
  rintro e k12 ⟨vLJ, rfl, ho, hb⟩
  have HBk12 := Lib.hid hb
  have LC := Lib.hid (LC.out.then HBk12.out)
  have LI := Lib.hid (LI.out.then HBk12.out)
  have LJ := Lib.hid (ho.isL (by rw [stL_ex]; decide))
  clear ho
  clear hb
  have HBk12t := Lib.hid (Below.call HBk11t.out HBk12.out)
  rw [stL_ex] at LJ
  obtain ⟨k13, hk13⟩ : ∃ W, W = (k12.alloc (.cells #[.int .i64 1, .int .i64 2] 3)) := ⟨_, rfl⟩
  have LK := Lib.hid (show KI.IsL k13 k13.heap.size (.slice (some ⟨k12.heap.size, 0, none⟩) 2 2) [1, 2] by rw [hk13]; simpa using (KI.lit1 k12 [1, 2] #[.int .i64 1, .int .i64 2] (by decide) rfl (by decide)).then (Below.refl _ _))
  have HBk13 := Lib.hid (show Below k12.heap.size k12 k13 by rw [hk13]; exact (Below.al (Below.refl _ _) _))
  have LC := Lib.hid (LC.out.then HBk13.out)
  have LJ := Lib.hid (LJ.out.then HBk13.out)
  have HBk13t := Lib.hid (Below.call HBk12t.out HBk13.out)
  go_wp2_with fail
  rw [← hk13]
  clear hk13
  refine (Two.same_any _ _ [1, 2] [1, 2] _ (two_of LJ.out) (two_of LK.out)).mono ?_
  rintro e wq ⟨rfl, dq, rfl⟩
  have HBk14 := Lib.hid (below_drewN (Below.refl k13.heap.size k13) dq)
  generalize k13.drewN dq = k14 at *
  have LC := Lib.hid (LC.out.then HBk14.out)
  have LJ := Lib.hid (LJ.out.then HBk14.out)
  have LK := Lib.hid (LK.out.then HBk14.out)
  have HBk14t := Lib.hid (Below.call HBk13t.out HBk14.out)
  obtain ⟨k15, hk15⟩ : ∃ W, W = (k14.alloc (.cells #[.int .i64 1, .int .i64 2] 3)) := ⟨_, rfl⟩
  have LM := Lib.hid (show KI.IsL k15 k15.heap.size (.slice (some ⟨k14.heap.size, 0, none⟩) 2 2) [1, 2] by rw [hk15]; simpa using (KI.lit1 k14 [1, 2] #[.int .i64 1, .int .i64 2] (by decide) rfl (by decide)).then (Below.refl _ _))
  have HBk15 := Lib.hid (show Below k14.heap.size k14 k15 by rw [hk15]; exact (Below.al (Below.refl _ _) _))
  have LC := Lib.hid (LC.out.then HBk15.out)
  have HBk15t := Lib.hid (Below.call HBk14t.out HBk15.out)
  go_wp2_with fail
  rw [← hk15]
  clear hk15
  refine (ordered_any _ _ [1, 2, 0] [1, 2] _ LC.out LM.out).mono ?_
  rintro e k16 ⟨rfl, hb⟩
  have HBk16 := Lib.hid hb
  have LC := Lib.hid (LC.out.then HBk16.out)
  have LM := Lib.hid (LM.out.then HBk16.out)
  clear hb
  have HBk16t := Lib.hid (Below.call HBk15t.out HBk16.out)
  rw [show ordV [1, 2, 0] [1, 2] = true by decide +kernel]
  go_wp2_with fail
  refine (right_o _ [1, 2, 0] _ LC.out).mono ?_
  rintro e k17 ⟨rfl, hb⟩
  have HBk17 := Lib.hid hb
  have LC := Lib.hid (LC.out.then HBk17.out)
  clear hb
  have HBk17t := Lib.hid (Below.call HBk16t.out HBk17.out)
  rw [show rgO [1, 2, 0] = true by decide +kernel]
  go_wp2
  go_ret
  exact ⟨rfl, HBk17t.out⟩
end Go.Proofs.Ytbflkdkbfidleaa
