/- Plans: what must come of every program. -/
import Derived.Test.YtbflkdkbfidleaaVQ
import Derived.Test.YtbflkdkbfidleaaVL
import Derived.Test.YtbflkdkbfidleaaVK
namespace Go.Proofs.Ytbflkdkbfidleaa
open Go.RowKit
theorem KI.lit1 (w : World) (xs : List Int) (cs : Array Value) (hx : ∀ x ∈ xs, fits x) (hcs : cs = (KI.flat xs).toArray) (hl : xs.length ≤ 9223372036854775807) :
    KI.IsL (w.alloc (.cells cs 3)) (w.alloc (.cells cs 3)).heap.size (.slice (some ⟨w.heap.size, 0, none⟩) xs.length xs.length) xs := by
  have := Lk.IsL.lits (K := KI) w xs cs hx hcs hl w.heap.size rfl
  rw [show (w.alloc (.cells cs 3)).heap.size = w.heap.size + 1 by simp]
  exact this
theorem mk_ex : mkV [2, 5] true = [(1, 2), (2, 2), (1, 5), (2, 5), (3, 0), (4, 5), (4, 2), (5, 0)] := by decide +kernel
theorem bk_ex : bkV [2, 5] 1 = [(4, 2), (5, 0)] := by decide +kernel
set_option maxRecDepth 100000 in
set_option maxHeartbeats 4000000 in
theorem lives18 (w : World) : Calls Try.prog 26 #[] w fun e w' => e = .returned (.bool true) ∧ Below w.heap.size w w' := by
  go_enter Try.func26, Try.ntmps26
  go_wp2_with fail
  obtain ⟨k1, hk1⟩ : ∃ W, W = (w.alloc (.cells #[.int .i64 2, .int .i64 5] 3)) := ⟨_, rfl⟩
  have LA := Lib.hid (show KI.IsL k1 k1.heap.size (.slice (some ⟨w.heap.size, 0, none⟩) 2 2) [2, 5] by rw [hk1]; simpa using (KI.lit1 w [2, 5] #[.int .i64 2, .int .i64 5] (by decide) rfl (by decide)).then (Below.refl _ _))
  have HBk1 := Lib.hid (show Below w.heap.size w k1 by rw [hk1]; exact (Below.al (Below.refl _ _) _))
  go_wp2_with fail
  rw [← hk1]
  clear hk1
  refine (make_any _ [2, 5] true _ LA.out (by decide)).mono ?_
  rintro e k2 ⟨vLM, rfl, ho, hb⟩
  have HBk2 := Lib.hid hb
  have LA := Lib.hid (LA.out.then HBk2.out)
  have LM := Lib.hid (ho.isL (by rw [mk_ex]; decide))
  clear ho
  clear hb
  have HBk2t := Lib.hid (Below.call HBk1.out HBk2.out)
  rw [mk_ex] at LM
  go_wp2_with fail
  obtain ⟨k3, hk3⟩ : ∃ W, W = (k2.alloc (.cells #[.int .i64 2, .int .i64 5] 3)) := ⟨_, rfl⟩
  have LB := Lib.hid (show KI.IsL k3 k3.heap.size (.slice (some ⟨k2.heap.size, 0, none⟩) 2 2) [2, 5] by rw [hk3]; simpa using (KI.lit1 k2 [2, 5] #[.int .i64 2, .int .i64 5] (by decide) rfl (by decide)).then (Below.refl _ _))
  have HBk3 := Lib.hid (show Below k2.heap.size k2 k3 by rw [hk3]; exact (Below.al (Below.refl _ _) _))
  have LM := Lib.hid (LM.out.then HBk3.out)
  have HBk3t := Lib.hid (Below.call HBk2t.out HBk3.out)
  go_wp2_with fail
  rw [← hk3]
  clear hk3
  refine (back_any _ [2, 5] 1 _ LB.out (by decide)).mono ?_
  rintro e k4 ⟨vLC, rfl, ho, hb⟩
  have HBk4 := Lib.hid hb
  have LM := Lib.hid (LM.out.then HBk4.out)
  have LB := Lib.hid (LB.out.then HBk4.out)
  have LC := Lib.hid (ho.isL (by rw [bk_ex]; decide))
  clear ho
  clear hb
  have HBk4t := Lib.hid (Below.call HBk3t.out HBk4.out)
  rw [bk_ex] at LC
  obtain ⟨AM, cM, rfl, hcM⟩ := LM.out.shape
  obtain ⟨AC, cC, rfl, hcC⟩ := LC.out.shape
  obtain ⟨bM, oM, rfl, hbM, _, hM⟩ := dd_cells LM.out (by decide)
  obtain ⟨bC, oC, rfl, hbC, _, hC⟩ := dd_cells LC.out (by decide)
  obtain ⟨m3, n3⟩ := hM 3 (by decide)
  obtain ⟨m4, n4⟩ := hM 4 (by decide)
  obtain ⟨p0, q0⟩ := hC 0 (by decide)
  clear hM hC
  simp only [List.length_cons, List.length_nil, Nat.reduceAdd, Nat.reduceMul] at LM LC m3 n3 m4 n4 p0 q0 ⊢
  simp only [List.getD_cons_succ, List.getD_cons_zero] at m3 n3 m4 n4 p0 q0
  simp only [Nat.add_zero] at p0 q0
  go_wp2_with fail
  refine (steps_any 2 true _).mono ?_
  rintro e wq ⟨rfl, rfl⟩
  rw [show stV 2 true = 8 by decide +kernel]
  go_wp2_with fail
  refine (two_any _ [(1, 2), (2, 2), (1, 5), (2, 5), (3, 0), (4, 5), (4, 2), (5, 0)] _ LM.out (by decide)).mono ?_
  rintro e k5 ⟨rfl, hb⟩
  have HBk5 := Lib.hid hb
  have LM := Lib.hid (LM.out.then HBk5.out)
  have LC := Lib.hid (LC.out.then HBk5.out)
  clear hb
  have HBk5t := Lib.hid (Below.call HBk4t.out HBk5.out)
  rw [show twV [(1, 2), (2, 2), (1, 5), (2, 5), (3, 0), (4, 5), (4, 2), (5, 0)] = true by decide +kernel]
  go_wp2_with fail
  refine (two_any _ [(4, 2), (5, 0)] _ LC.out (by decide)).mono ?_
  rintro e k6 ⟨rfl, hb⟩
  have HBk6 := Lib.hid hb
  have LM := Lib.hid (LM.out.then HBk6.out)
  have LC := Lib.hid (LC.out.then HBk6.out)
  clear hb
  have HBk6t := Lib.hid (Below.call HBk5t.out HBk6.out)
  rw [show twV [(4, 2), (5, 0)] = false by decide +kernel]
  go_wp2_with fail
  refine (holds_any _ [(1, 2), (2, 2), (1, 5), (2, 5), (3, 0), (4, 5), (4, 2), (5, 0)] 6 _ LM.out (by decide)).mono ?_
  rintro e k7 ⟨vLD, rfl, hi, hb⟩
  rw [show hlV [(1, 2), (2, 2), (1, 5), (2, 5), (3, 0), (4, 5), (4, 2), (5, 0)] 6 = [2] by decide +kernel] at hi
  have HBk7 := Lib.hid hb
  have LM := Lib.hid (LM.out.then HBk7.out)
  have LD := Lib.hid hi
  clear hi hb
  have HBk7t := Lib.hid (Below.call HBk6t.out HBk7.out)
  go_wp2_with fail
  obtain ⟨k8, hk8⟩ : ∃ W, W = (k7.alloc (.cells #[.int .i64 2] 3)) := ⟨_, rfl⟩
  have LE := Lib.hid (show KI.IsL k8 k8.heap.size (.slice (some ⟨k7.heap.size, 0, none⟩) 1 1) [2] by rw [hk8]; simpa using (KI.lit1 k7 [2] #[.int .i64 2] (by decide) rfl (by decide)).then (Below.refl _ _))
  have HBk8 := Lib.hid (show Below k7.heap.size k7 k8 by rw [hk8]; exact (Below.al (Below.refl _ _) _))
  have LD := Lib.hid (LD.out.then HBk8.out)
  have HBk8t := Lib.hid (Below.call HBk7t.out HBk8.out)
  go_wp2_with fail
  rw [← hk8]
  clear hk8
  refine (Two.same_any _ _ [2] [2] _ (two_of LD.out) (two_of LE.out)).mono ?_
  rintro e wq ⟨rfl, dq, rfl⟩
  have HBk9 := Lib.hid (below_drewN (Below.refl k8.heap.size k8) dq)
  generalize k8.drewN dq = k9 at *
  have LD := Lib.hid (LD.out.then HBk9.out)
  have LE := Lib.hid (LE.out.then HBk9.out)
  have HBk9t := Lib.hid (Below.call HBk8t.out HBk9.out)
  go_wp2
  go_ret
  exact ⟨rfl, HBk9t.out⟩
end Go.Proofs.Ytbflkdkbfidleaa
