/- The next fresh tip, the one that an arm holds, and how many there are: the law's walk. -/
import Derived.Test.YtdghekhkjkkgfaaHH
namespace Go.Proofs.Ytdghekhkjkkgfaa
open Go.RowKit

set_option maxRecDepth 100000 in
set_option maxHeartbeats 4000000 in
theorem tipLooks_walk (v : Value) (xs : List (Int × Int)) (f a : Int) (hf : fits f) (w : World) (hv : KT.IsL w w.heap.size v xs) : Calls Try.prog 7 #[v, .int .i64 f, .int .i64 a] w fun e w' => e = .returned (.bool true) ∧ Below w.heap.size w w' := by
  have h1 := Lib.hid (fun w h => next_any v xs f hf w h)
  have h2 := Lib.hid (fun w h => rnext_any v xs f w h)
  have h3 := Lib.hid (fun w h => held_any v xs a w h)
  have h4 := Lib.hid (fun w h => rheld_any v xs a w h)
  have h5 := Lib.hid (fun w h => count_any v xs w h)
  have h6 := Lib.hid (fun w h => rcount_any v xs w h)
  have h7 := Lib.hid (fun w => lives_any w)
  have HV0 := Lib.hid hv
  unfold tot at h5
  unfold tot4 at h6
  clear hv hf
  generalize fstV (frP xs f) xs.length = y1 at *
  generalize fstV (hdP xs a 0) xs.length = y2 at *
  generalize (cnt 1 xs : Int) = n1 at *
  generalize (cnt 2 xs : Int) = n2 at *
  generalize (cnt 3 xs : Int) = n3 at *
  obtain ⟨p1, q1⟩ := y1
  obtain ⟨p2, q2⟩ := y2
  go_enter Try.func7, Try.ntmps7
  go_wp2_with fail
  refine (h1.out _ HV0.out).mono ?_
  rintro e w1 ⟨rfl, hb1⟩
  have HV1 := Lib.hid (HV0.out.then hb1)
  have HB1 := Lib.hid (hb1)
  clear hb1
  go_wp2_with fail
  refine (h2.out _ HV1.out).mono ?_
  rintro e w2 ⟨rfl, hb2⟩
  have HV2 := Lib.hid (HV1.out.then hb2)
  have HB2 := Lib.hid (Below.call HB1.out hb2)
  clear hb2
  go_wp2_with fail
  refine (h3.out _ HV2.out).mono ?_
  rintro e w3 ⟨rfl, hb3⟩
  have HV3 := Lib.hid (HV2.out.then hb3)
  have HB3 := Lib.hid (Below.call HB2.out hb3)
  clear hb3
  go_wp2_with fail
  refine (h4.out _ HV3.out).mono ?_
  rintro e w4 ⟨rfl, hb4⟩
  have HV4 := Lib.hid (HV3.out.then hb4)
  have HB4 := Lib.hid (Below.call HB3.out hb4)
  clear hb4
  go_wp2_with fail
  refine (h5.out _ HV4.out).mono ?_
  rintro e w5 ⟨rfl, hb5⟩
  have HV5 := Lib.hid (HV4.out.then hb5)
  have HB5 := Lib.hid (Below.call HB4.out hb5)
  clear hb5
  go_wp2_with fail
  refine (h6.out _ HV5.out).mono ?_
  rintro e w6 ⟨rfl, hb6⟩
  have HV6 := Lib.hid (HV5.out.then hb6)
  have HB6 := Lib.hid (Below.call HB5.out hb6)
  clear hb6
  go_wp2_with fail
  obtain ⟨v1, hv1⟩ : ∃ v1, v1 = w6.alloc (.cells #[.int .i64 0, .int .i64 n1, .int .i64 n2, .int .i64 n3] 54) := ⟨_, rfl⟩
  have c1 : v1.cell? ⟨w6.heap.size, 1, none⟩ = some (.int .i64 n1) := by rw [hv1, alloc_at]; rfl
  have c2 : v1.cell? ⟨w6.heap.size, 2, none⟩ = some (.int .i64 n2) := by rw [hv1, alloc_at]; rfl
  have c3 : v1.cell? ⟨w6.heap.size, 3, none⟩ = some (.int .i64 n3) := by rw [hv1, alloc_at]; rfl
  have HW := Lib.hid (show Below w.heap.size w v1 by rw [hv1]; exact Below.al HB6.out _)
  rw [← hv1]
  clear hv1
  generalize w6.heap.size = G at *
  refine (h7.out _).mono ?_
  rintro e w7 ⟨rfl, hb7⟩
  have d1 := keep_cell hb7 c1
  have d2 := keep_cell hb7 c2
  have d3 := keep_cell hb7 c3
  have HW7 := Lib.hid (Below.call HW.out hb7)
  clear hb7 c1 c2 c3
  go_wp2
  go_ret
  exact ⟨rt_b _ (by simp), HW7.out⟩
end Go.Proofs.Ytdghekhkjkkgfaa
