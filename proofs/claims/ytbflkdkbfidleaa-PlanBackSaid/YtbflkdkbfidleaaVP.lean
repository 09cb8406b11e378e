/- Plans: the way back: the program. -/
import Derived.Test.YtbflkdkbfidleaaVO
import Derived.Test.YtbflkdkbfidleaaVC
namespace Go.Proofs.Ytbflkdkbfidleaa
open Go.RowKit Go.Shelf
theorem ls_new (w : World) : Ls (w.alloc (.cells #[.slice none 0 0] 58)) w.heap.size (w.heap.size + 1) [] :=
  ⟨⟨_, by simp [go_sem], Lk.Own.nil _ _⟩, by simp [go_sem], by simp, Nat.lt_succ_self _⟩
set_option maxRecDepth 100000 in
set_option maxHeartbeats 4000000 in
theorem back_any (v : Value) (ids : List Int) (k : Int) (w : World) (hv : KI.IsL w w.heap.size v ids) (hl : ids.length ≤ 1000) :
    Calls Try.prog 30 #[v, .int .i64 k] w fun e w' => ∃ v', e = .returned v' ∧ KD.Own w' w.heap.size v' (bkV ids k) ∧ Below w.heap.size w w' := by
  have HV := Lib.hid hv
  have HR := Lib.hid (Two.right_any v ids w (two_of hv))
  have hS : bkV ids k = if decide (Two.Inc ids) then (ids.take (wi k ids.length)).reverse.map frD ++ [(5, 0)] else [] := rfl
  rw [hS]
  clear hS
  have hwl : wi k ids.length ≤ ids.length := by unfold wi; omega
  have HWI := Lib.hid (fun w => within_any k ids.length w)
  generalize wi k ids.length = n at *
  obtain ⟨v1, hrun, hil⟩ := Two.IsL.to_ (two_of hv) n hwl
  have HT := Lib.hid (of_two hil)
  obtain ⟨A, c, rfl, hc⟩ := hv.shape
  clear hv hil
  have htl : (ids.take n).length ≤ 1000 := by rw [List.length_take]; omega
  generalize ids.take n = t at *
  generalize decide (Two.Inc ids) = q at *
  cases q
  · simp only [Bool.false_eq_true, if_false]
    go_enter Try.func30, Try.ntmps30
    go_wp2_with fail
    refine HR.out.mono ?_
    rintro e w1 ⟨rfl, d, rfl⟩
    go_wp2
    go_ret
    exact ⟨_, rfl, Lk.Own.nil _ _, below_drewN (Below.refl _ _) _⟩
  simp only [if_true]
  go_enter Try.func30, Try.ntmps30
  go_wp2_with fail
  refine HR.out.mono ?_
  rintro e w1 ⟨rfl, d, rfl⟩
  have HB1 := Lib.hid (below_drewN (Below.refl w.heap.size w) d)
  have hsz : (w.drewN d).heap.size = w.heap.size := rfl
  obtain ⟨w1, hw1⟩ : ∃ w1, w1 = w.drewN d := ⟨_, rfl⟩
  rw [← hw1] at HB1 hsz ⊢
  clear hw1
  have HL0 := Lib.hid (show Ls (w1.alloc (.cells #[.slice none 0 0] 58)) w.heap.size (w.heap.size + 1) [] by have := ls_new w1; rw [hsz] at this; exact this)
  have HBW := Lib.hid (Below.al HB1.out (.cells #[.slice none 0 0] 58))
  have HFI := Lib.hid (finish_any (w1.alloc (.cells #[.slice none 0 0] 58)) w.heap.size (w.heap.size + 1) w.heap.size [] t v1 HL0.out (HT.out.below HBW.out) (by simp; omega) (by rw [World.size_alloc, hsz]; exact Nat.le_refl _) (Nat.le_refl _))
  go_wp2_with fail
  refine (HWI.out _).mono ?_
  rintro e w2 ⟨rfl, rfl⟩
  go_wp2_with fail
  refine HFI.out.mono ?_
  rintro e w3 ⟨rfl, hls, hb3⟩
  obtain ⟨v3, c3, ho3⟩ := hls.c
  have HO3 := Lib.hid ho3
  have HB3 := Lib.hid (HBW.out.trans hb3)
  clear hls hb3 ho3
  go_wp2
  go_ret
  exact ⟨_, rfl, by simpa using HO3.out.mono (Nat.le_succ _), HB3.out⟩
end Go.Proofs.Ytbflkdkbfidleaa
