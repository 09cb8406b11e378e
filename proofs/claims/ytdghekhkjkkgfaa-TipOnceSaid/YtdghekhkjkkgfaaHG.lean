/- Tips: how many there are of each state, as the reference tells it. -/
import Derived.Test.YtdghekhkjkkgfaaHF
namespace Go.Proofs.Ytdghekhkjkkgfaa
open Go.RowKit

set_option maxRecDepth 100000 in
set_option maxHeartbeats 2000000 in
theorem rcount_any (v : Value) (xs : List (Int × Int)) (w : World) (hv : KT.IsL w w.heap.size v xs) : Calls Try.prog 35 #[v] w fun e w' => e = .returned (tot4 xs) ∧ Below w.heap.size w w' := by
  obtain ⟨A, c, rfl, hc⟩ := hv.shape
  have HV := Lib.hid hv
  have hl := hv.2.2
  clear hv
  obtain ⟨w1, hw1⟩ : ∃ w1, w1 = w.alloc (.cells #[.int .i64 0, .int .i64 0, .int .i64 0, .int .i64 0] 54) := ⟨_, rfl⟩
  have HR1 := Lib.hid (show Four w1 w.heap.size 0 0 0 0 by rw [hw1]; exact Four.new w _ 0 0 0 0)
  have HB1 := Lib.hid (show Below w.heap.size w w1 by rw [hw1]; exact Below.al (Below.refl _ _) _)
  have hs1 : w1.heap.size = w.heap.size + 1 := by rw [hw1]; simp
  obtain ⟨w0, hw0⟩ : ∃ w0, w0 = w1.alloc (.cells #[.int .i64 0, .int .i64 0, .int .i64 0, .int .i64 0] 54) := ⟨_, rfl⟩
  have HB0 := Lib.hid (show Below w.heap.size w w0 by rw [hw0]; exact Below.al HB1.out _)
  have HR0 := Lib.hid (show Four w0 w.heap.size 0 0 0 0 by rw [hw0]; exact HR1.out.then (Below.al (Below.refl _ _) _))
  have HF0 := Lib.hid (show Four w0 (w.heap.size + 1) 0 0 0 0 by rw [hw0, ← hs1]; exact Four.new w1 _ 0 0 0 0)
  have hsz0 : w.heap.size + 1 < w0.heap.size := HF0.out.lt
  go_enter Try.func35, Try.ntmps35
  go_wp2
  rw [← hw1, ← hw0]
  clear hw0 hw1 hs1
  go_loopw [4] (fun i wr => ∃ k : Nat, i = .int .i64 k ∧ k ≤ xs.length ∧ Four wr w.heap.size 0 0 0 0 ∧ Four wr (w.heap.size + 1) 0 (cnt 1 (xs.take k)) (cnt 2 (xs.take k)) (cnt 3 (xs.take k)) ∧ Below w.heap.size w wr) (fun i _ => xs.length - (intOf i).toNat)
  case atStart => exact ⟨0, rfl, Nat.zero_le _, HR0.out, HF0.out, HB0.out⟩
  case round =>
    obtain ⟨k, rfl, hk, hfr, hfo, hbl⟩ := hrel
    have HB := Lib.hid hbl
    have HF := Lib.hid hfo
    have HR := Lib.hid hfr
    clear hfo hbl hfr
    by_cases hlt : k < xs.length
    · obtain ⟨b, off, rfl, hb, hbc, hcell⟩ := tip_cells (HV.out.below HB.out) (by omega)
      obtain ⟨e1, e2⟩ := hcell k hlt
      obtain ⟨t, ht⟩ : ∃ t, xs.getD k (0, 0) = t := ⟨_, rfl⟩
      obtain ⟨t1, t2⟩ := t
      rw [ht] at e1 e2
      dsimp only at e1 e2
      have HT := Lib.hid ht
      have HA := Lib.hid (fun w => rright_any t1 t2 w)
      have hbw : b < wr.heap.size := Nat.lt_of_lt_of_le hb HB.out.size
      have hn1 := cnt_le 1 xs k hk
      have hn2 := cnt_le 2 xs k hk
      have hn3 := cnt_le 3 xs k hk
      clear ht hcell
      rcases of_range t1 t2 with h | h | h | h
      · have HC := Lib.hid (show (cnt 1 (xs.take (k + 1)) = cnt 1 (xs.take k)) ∧ (cnt 2 (xs.take (k + 1)) = cnt 2 (xs.take k)) ∧ (cnt 3 (xs.take (k + 1)) = cnt 3 (xs.take k)) from
          ⟨cnt_miss _ _ _ hlt _ _ HT.out (by rw [h]; decide), cnt_miss _ _ _ hlt _ _ HT.out (by rw [h]; decide), cnt_miss _ _ _ hlt _ _ HT.out (by rw [h]; decide)⟩)
        rw [h] at HA
        rw [show (!((0 : Int) == 0)) = false from rfl] at HA
        clear h
        generalize cnt 1 (xs.take k) = n1 at *
        generalize cnt 2 (xs.take k) = n2 at *
        generalize cnt 3 (xs.take k) = n3 at *
        go_wp2_with fail
        refine (HA.out _).mono ?_
        rintro e w2 ⟨rfl, hb2⟩
        have HF2 := Lib.hid (HF.out.then hb2)
        have HR2 := Lib.hid (HR.out.then hb2)
        obtain ⟨f0, f1, f2, f3, g0, g1, g2, g3⟩ := HF2.out
        have HB3 := Lib.hid (Below.call HB.out hb2)
        have e1' := keep_cell hb2 e1
        clear hb2 e1 e2
        go_wp2
        go_roundw
        case rel => exact ⟨k + 1, num_i (by omega), by omega, HR2.out, by
          rw [HC.out.1, HC.out.2.1, HC.out.2.2]
          exact HF2.out, HB3.out⟩
        case measure => simp [intOf]; omega
      · have HC := Lib.hid (show (cnt 1 (xs.take (k + 1)) = cnt 1 (xs.take k) + 1) ∧ (cnt 2 (xs.take (k + 1)) = cnt 2 (xs.take k)) ∧ (cnt 3 (xs.take (k + 1)) = cnt 3 (xs.take k)) from
          ⟨cnt_hit _ _ _ hlt _ _ HT.out h, cnt_miss _ _ _ hlt _ _ HT.out (by rw [h]; decide), cnt_miss _ _ _ hlt _ _ HT.out (by rw [h]; decide)⟩)
        rw [h] at HA
        rw [show (!((1 : Int) == 0)) = true from rfl] at HA
        obtain rfl : t1 = 1 := by
          rcases of_cases t1 t2 with k | k
          · rw [h] at k; cases k
          · rw [← k, h]
        clear h
        generalize cnt 1 (xs.take k) = n1 at *
        generalize cnt 2 (xs.take k) = n2 at *
        generalize cnt 3 (xs.take k) = n3 at *
        go_wp2_with fail
        refine (HA.out _).mono ?_
        rintro e w2 ⟨rfl, hb2⟩
        have HF2 := Lib.hid (HF.out.then hb2)
        have HR2 := Lib.hid (HR.out.then hb2)
        obtain ⟨f0, f1, f2, f3, g0, g1, g2, g3⟩ := HF2.out
        have HB3 := Lib.hid (Below.call HB.out hb2)
        have e1' := keep_cell hb2 e1
        clear hb2 e1 e2
        go_wp2
        go_roundw
        case rel => exact ⟨k + 1, num_i (by omega), by omega, ⟨st_other HR2.out.a (by simp), st_other HR2.out.b (by simp), st_other HR2.out.c (by simp), st_other HR2.out.d (by simp), st_fz HR2.out.fa, st_fz HR2.out.fb, st_fz HR2.out.fc, st_fz HR2.out.fd⟩, by
          rw [HC.out.1, HC.out.2.1, HC.out.2.2]
          exact HF2.out.s1 _, Below.st HB3.out (Nat.le_succ _)⟩
        case measure => simp [intOf]; omega
      · have HC := Lib.hid (show (cnt 1 (xs.take (k + 1)) = cnt 1 (xs.take k)) ∧ (cnt 2 (xs.take (k + 1)) = cnt 2 (xs.take k) + 1) ∧ (cnt 3 (xs.take (k + 1)) = cnt 3 (xs.take k)) from
          ⟨cnt_miss _ _ _ hlt _ _ HT.out (by rw [h]; decide), cnt_hit _ _ _ hlt _ _ HT.out h, cnt_miss _ _ _ hlt _ _ HT.out (by rw [h]; decide)⟩)
        rw [h] at HA
        rw [show (!((2 : Int) == 0)) = true from rfl] at HA
        obtain rfl : t1 = 2 := by
          rcases of_cases t1 t2 with k | k
          · rw [h] at k; cases k
          · rw [← k, h]
        clear h
        generalize cnt 1 (xs.take k) = n1 at *
        generalize cnt 2 (xs.take k) = n2 at *
        generalize cnt 3 (xs.take k) = n3 at *
        go_wp2_with fail
        refine (HA.out _).mono ?_
        rintro e w2 ⟨rfl, hb2⟩
        have HF2 := Lib.hid (HF.out.then hb2)
        have HR2 := Lib.hid (HR.out.then hb2)
        obtain ⟨f0, f1, f2, f3, g0, g1, g2, g3⟩ := HF2.out
        have HB3 := Lib.hid (Below.call HB.out hb2)
        have e1' := keep_cell hb2 e1
        clear hb2 e1 e2
        go_wp2
        go_roundw
        case rel => exact ⟨k + 1, num_i (by omega), by omega, ⟨st_other HR2.out.a (by simp), st_other HR2.out.b (by simp), st_other HR2.out.c (by simp), st_other HR2.out.d (by simp), st_fz HR2.out.fa, st_fz HR2.out.fb, st_fz HR2.out.fc, st_fz HR2.out.fd⟩, by
          rw [HC.out.1, HC.out.2.1, HC.out.2.2]
          exact HF2.out.s2 _, Below.st HB3.out (Nat.le_succ _)⟩
        case measure => simp [intOf]; omega
      · have HC := Lib.hid (show (cnt 1 (xs.take (k + 1)) = cnt 1 (xs.take k)) ∧ (cnt 2 (xs.take (k + 1)) = cnt 2 (xs.take k)) ∧ (cnt 3 (xs.take (k + 1)) = cnt 3 (xs.take k) + 1) from
          ⟨cnt_miss _ _ _ hlt _ _ HT.out (by rw [h]; decide), cnt_miss _ _ _ hlt _ _ HT.out (by rw [h]; decide), cnt_hit _ _ _ hlt _ _ HT.out h⟩)
        rw [h] at HA
        rw [show (!((3 : Int) == 0)) = true from rfl] at HA
        obtain rfl : t1 = 3 := by
          rcases of_cases t1 t2 with k | k
          · rw [h] at k; cases k
          · rw [← k, h]
        clear h
        generalize cnt 1 (xs.take k) = n1 at *
        generalize cnt 2 (xs.take k) = n2 at *
        generalize cnt 3 (xs.take k) = n3 at *
        go_wp2_with fail
        refine (HA.out _).mono ?_
        rintro e w2 ⟨rfl, hb2⟩
        have HF2 := Lib.hid (HF.out.then hb2)
        have HR2 := Lib.hid (HR.out.then hb2)
        obtain ⟨f0, f1, f2, f3, g0, g1, g2, g3⟩ := HF2.out
        have HB3 := Lib.hid (Below.call HB.out hb2)
        have e1' := keep_cell hb2 e1
        clear hb2 e1 e2
        go_wp2
        go_roundw
        case rel => exact ⟨k + 1, num_i (by omega), by omega, ⟨st_other HR2.out.a (by simp), st_other HR2.out.b (by simp), st_other HR2.out.c (by simp), st_other HR2.out.d (by simp), st_fz HR2.out.fa, st_fz HR2.out.fb, st_fz HR2.out.fc, st_fz HR2.out.fd⟩, by
          rw [HC.out.1, HC.out.2.1, HC.out.2.2]
          exact HF2.out.s3 _, Below.st HB3.out (Nat.le_succ _)⟩
        case measure => simp [intOf]; omega
    · obtain rfl : k = xs.length := by omega
      rw [List.take_length] at HF
      obtain ⟨f0, f1, f2, f3, g0, g1, g2, g3⟩ := HF.out
      obtain ⟨a0, a1, a2, a3, b0, b1, b2, b3⟩ := HR.out
      clear g0 g1 g2 g3
      go_wp2
      have q0 := st_same (v := .int .i64 0) a0
      have q1 := st_same (v := .int .i64 (cnt 1 xs)) (HR.out.s0 0).b
      have q2 := st_same (v := .int .i64 (cnt 2 xs)) ((HR.out.s0 0).s1 (cnt 1 xs)).c
      have q3 := st_same (v := .int .i64 (cnt 3 xs)) (((HR.out.s0 0).s1 (cnt 1 xs)).s2 (cnt 2 xs)).d
      refine bodyPost_ret (v := tot4 xs) (by simp [results, Try.results35, go_sem, tot4, q0, q1, q2, q3]) rfl ⟨rfl, ?_⟩
      exact Below.st (Below.st (Below.st (Below.st HB.out (Nat.le_refl _)) (Nat.le_refl _)) (Nat.le_refl _)) (Nat.le_refl _)
end Go.Proofs.Ytdghekhkjkkgfaa
