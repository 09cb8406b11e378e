/- Tips: how many there are of each state, as the program and the reference tell it. -/
import Derived.Test.YtdghekhkjkkgfaaHE
namespace Go.Proofs.Ytdghekhkjkkgfaa
open Go.RowKit

/-- How many tips are of a state. -/
def cnt (s : Int) (xs : List (Int × Int)) : Nat := xs.countP (fun q => ofV q.1 q.2 == s)
theorem cnt_hit (s : Int) (xs : List (Int × Int)) (k : Nat) (hk : k < xs.length) (t1 t2 : Int) (ht : xs.getD k (0, 0) = (t1, t2)) (h : ofV t1 t2 = s) : cnt s (xs.take (k + 1)) = cnt s (xs.take k) + 1 := by
  unfold cnt
  rw [take_snoc _ _ (0, 0) hk, List.countP_append, ht]
  simp [h]
theorem cnt_miss (s : Int) (xs : List (Int × Int)) (k : Nat) (hk : k < xs.length) (t1 t2 : Int) (ht : xs.getD k (0, 0) = (t1, t2)) (h : ofV t1 t2 ≠ s) : cnt s (xs.take (k + 1)) = cnt s (xs.take k) := by
  unfold cnt
  rw [take_snoc _ _ (0, 0) hk, List.countP_append, ht]
  simp [h]
theorem cnt_le (s : Int) (xs : List (Int × Int)) (k : Nat) (hk : k ≤ xs.length) : cnt s (xs.take k) ≤ k := by
  have := List.countP_le_length (p := fun q : Int × Int => ofV q.1 q.2 == s) (l := xs.take k)
  rw [List.length_take] at this
  unfold cnt
  omega
theorem of_range (s b : Int) : ofV s b = 0 ∨ ofV s b = 1 ∨ ofV s b = 2 ∨ ofV s b = 3 := by
  unfold ofV
  split
  · omega
  · split <;> omega
/-- A row of four numbers of the call's own. -/
structure Four (w : World) (G : Nat) (a b c d : Int) : Prop where
  a : w.cell? ⟨G, 0, none⟩ = some (.int .i64 a)
  b : w.cell? ⟨G, 1, none⟩ = some (.int .i64 b)
  c : w.cell? ⟨G, 2, none⟩ = some (.int .i64 c)
  d : w.cell? ⟨G, 3, none⟩ = some (.int .i64 d)
  fa : w.frozen? ⟨G, 0, none⟩ = false
  fb : w.frozen? ⟨G, 1, none⟩ = false
  fc : w.frozen? ⟨G, 2, none⟩ = false
  fd : w.frozen? ⟨G, 3, none⟩ = false
theorem Four.lt {w : World} {G : Nat} {a b c d : Int} (h : Four w G a b c d) : G < w.heap.size := World.block_lt_of_cell? w _ h.a
theorem Four.then {w w' : World} {G : Nat} {a b c d : Int} (h : Four w G a b c d) (hb : Below w.heap.size w w') : Four w' G a b c d :=
  have hf := fun (o : Nat) => hb.frozen (p := ⟨G, o, none⟩) h.lt
  ⟨keep_cell hb h.a, keep_cell hb h.b, keep_cell hb h.c, keep_cell hb h.d, (hf 0).trans h.fa, (hf 1).trans h.fb, (hf 2).trans h.fc, (hf 3).trans h.fd⟩
theorem Four.s0 {w : World} {G : Nat} {a b c d : Int} (h : Four w G a b c d) (x : Int) : Four (w.setCell ⟨G, 0, none⟩ (.int .i64 x)) G x b c d := ⟨st_same h.a, st_other h.b (by simp), st_other h.c (by simp), st_other h.d (by simp), st_fz h.fa, st_fz h.fb, st_fz h.fc, st_fz h.fd⟩
theorem Four.s1 {w : World} {G : Nat} {a b c d : Int} (h : Four w G a b c d) (x : Int) : Four (w.setCell ⟨G, 1, none⟩ (.int .i64 x)) G a x c d := ⟨st_other h.a (by simp), st_same h.b, st_other h.c (by simp), st_other h.d (by simp), st_fz h.fa, st_fz h.fb, st_fz h.fc, st_fz h.fd⟩
theorem Four.s2 {w : World} {G : Nat} {a b c d : Int} (h : Four w G a b c d) (x : Int) : Four (w.setCell ⟨G, 2, none⟩ (.int .i64 x)) G a b x d := ⟨st_other h.a (by simp), st_other h.b (by simp), st_same h.c, st_other h.d (by simp), st_fz h.fa, st_fz h.fb, st_fz h.fc, st_fz h.fd⟩
theorem Four.s3 {w : World} {G : Nat} {a b c d : Int} (h : Four w G a b c d) (x : Int) : Four (w.setCell ⟨G, 3, none⟩ (.int .i64 x)) G a b c x := ⟨st_other h.a (by simp), st_other h.b (by simp), st_other h.c (by simp), st_same h.d, st_fz h.fa, st_fz h.fb, st_fz h.fc, st_fz h.fd⟩
theorem Four.new (w : World) (t : TypeId) (a b c d : Int) : Four (w.alloc (.cells #[.int .i64 a, .int .i64 b, .int .i64 c, .int .i64 d] t)) w.heap.size a b c d :=
  ⟨by rw [alloc_at]; rfl, by rw [alloc_at]; rfl, by rw [alloc_at]; rfl, by rw [alloc_at]; rfl, by simp, by simp, by simp, by simp⟩
def tot (xs : List (Int × Int)) : Value := .tuple #[.int .i64 (cnt 1 xs), .int .i64 (cnt 2 xs), .int .i64 (cnt 3 xs)]
def tot4 (xs : List (Int × Int)) : Value := .agg #[.int .i64 0, .int .i64 (cnt 1 xs), .int .i64 (cnt 2 xs), .int .i64 (cnt 3 xs)]

set_option maxRecDepth 100000 in
set_option maxHeartbeats 2000000 in
theorem count_any (v : Value) (xs : List (Int × Int)) (w : World) (hv : KT.IsL w w.heap.size v xs) : Calls Try.prog 34 #[v] w fun e w' => e = .returned (tot xs) ∧ Below w.heap.size w w' := by
  obtain ⟨A, c, rfl, hc⟩ := hv.shape
  have HV := Lib.hid hv
  have hl := hv.2.2
  clear hv
  go_enter Try.func34, Try.ntmps34
  obtain ⟨w0, hw0⟩ : ∃ w0, w0 = w.alloc (.cells #[.int .i64 0, .int .i64 0, .int .i64 0, .int .i64 0] 54) := ⟨_, rfl⟩
  have HB0 := Lib.hid (show Below w.heap.size w w0 by rw [hw0]; exact Below.al (Below.refl _ _) _)
  have HF0 := Lib.hid (show Four w0 w.heap.size 0 0 0 0 by rw [hw0]; exact Four.new w _ 0 0 0 0)
  have hsz0 : w.heap.size < w0.heap.size := HF0.out.lt
  go_wp2
  rw [← hw0]
  clear hw0
  go_loopw [10] (fun i wr => ∃ k : Nat, i = .int .i64 k ∧ k ≤ xs.length ∧ Four wr w.heap.size (cnt 0 (xs.take k)) (cnt 1 (xs.take k)) (cnt 2 (xs.take k)) (cnt 3 (xs.take k)) ∧ Below w.heap.size w wr) (fun i _ => xs.length - (intOf i).toNat)
  case atStart => exact ⟨0, rfl, Nat.zero_le _, HF0.out, HB0.out⟩
  case round =>
    obtain ⟨k, rfl, hk, hfo, hbl⟩ := hrel
    have HB := Lib.hid hbl
    have HF := Lib.hid hfo
    clear hfo hbl
    by_cases hlt : k < xs.length
    · obtain ⟨b, off, rfl, hb, hbc, hcell⟩ := tip_cells (HV.out.below HB.out) (by omega)
      obtain ⟨e1, e2⟩ := hcell k hlt
      obtain ⟨t, ht⟩ : ∃ t, xs.getD k (0, 0) = t := ⟨_, rfl⟩
      obtain ⟨t1, t2⟩ := t
      rw [ht] at e1 e2
      dsimp only at e1 e2
      have HT := Lib.hid ht
      have HA := Lib.hid (fun w => of_any t1 t2 w)
      have hbw : b < wr.heap.size := Nat.lt_of_lt_of_le hb HB.out.size
      have hn0 := cnt_le 0 xs k hk
      have hn1 := cnt_le 1 xs k hk
      have hn2 := cnt_le 2 xs k hk
      have hn3 := cnt_le 3 xs k hk
      clear ht hcell
      rcases of_range t1 t2 with h | h | h | h
      · have HR := Lib.hid (show (cnt 0 (xs.take (k + 1)) = cnt 0 (xs.take k) + 1) ∧ (cnt 1 (xs.take (k + 1)) = cnt 1 (xs.take k)) ∧ (cnt 2 (xs.take (k + 1)) = cnt 2 (xs.take k)) ∧ (cnt 3 (xs.take (k + 1)) = cnt 3 (xs.take k)) from
          ⟨cnt_hit _ _ _ hlt _ _ HT.out h, cnt_miss _ _ _ hlt _ _ HT.out (by rw [h]; decide), cnt_miss _ _ _ hlt _ _ HT.out (by rw [h]; decide), cnt_miss _ _ _ hlt _ _ HT.out (by rw [h]; decide)⟩)
        rw [h] at HA
        clear h
        generalize cnt 0 (xs.take k) = n0 at *
        generalize cnt 1 (xs.take k) = n1 at *
        generalize cnt 2 (xs.take k) = n2 at *
        generalize cnt 3 (xs.take k) = n3 at *
        go_wp2_with fail
        refine (HA.out _).mono ?_
        rintro e w2 ⟨rfl, hb2⟩
        have HB2 := Lib.hid (Below.box _ hb2)
        have HF2 := Lib.hid (HF.out.then HB2.out)
        obtain ⟨f0, f1, f2, f3, g0, g1, g2, g3⟩ := HF2.out
        have HB3 := Lib.hid (Below.call HB.out HB2.out)
        clear hb2 e1 e2
        go_wp2
        go_roundw
        case rel => exact ⟨k + 1, num_i (by omega), by omega, by
          rw [HR.out.1, HR.out.2.1, HR.out.2.2.1, HR.out.2.2.2]
          exact HF2.out.s0 _, Below.st HB3.out (Nat.le_refl _)⟩
        case measure => simp [intOf]; omega
      · have HR := Lib.hid (show (cnt 0 (xs.take (k + 1)) = cnt 0 (xs.take k)) ∧ (cnt 1 (xs.take (k + 1)) = cnt 1 (xs.take k) + 1) ∧ (cnt 2 (xs.take (k + 1)) = cnt 2 (xs.take k)) ∧ (cnt 3 (xs.take (k + 1)) = cnt 3 (xs.take k)) from
          ⟨cnt_miss _ _ _ hlt _ _ HT.out (by rw [h]; decide), cnt_hit _ _ _ hlt _ _ HT.out h, cnt_miss _ _ _ hlt _ _ HT.out (by rw [h]; decide), cnt_miss _ _ _ hlt _ _ HT.out (by rw [h]; decide)⟩)
        rw [h] at HA
        clear h
        generalize cnt 0 (xs.take k) = n0 at *
        generalize cnt 1 (xs.take k) = n1 at *
        generalize cnt 2 (xs.take k) = n2 at *
        generalize cnt 3 (xs.take k) = n3 at *
        go_wp2_with fail
        refine (HA.out _).mono ?_
        rintro e w2 ⟨rfl, hb2⟩
        have HB2 := Lib.hid (Below.box _ hb2)
        have HF2 := Lib.hid (HF.out.then HB2.out)
        obtain ⟨f0, f1, f2, f3, g0, g1, g2, g3⟩ := HF2.out
        have HB3 := Lib.hid (Below.call HB.out HB2.out)
        clear hb2 e1 e2
        go_wp2
        go_roundw
        case rel => exact ⟨k + 1, num_i (by omega), by omega, by
          rw [HR.out.1, HR.out.2.1, HR.out.2.2.1, HR.out.2.2.2]
          exact HF2.out.s1 _, Below.st HB3.out (Nat.le_refl _)⟩
        case measure => simp [intOf]; omega
      · have HR := Lib.hid (show (cnt 0 (xs.take (k + 1)) = cnt 0 (xs.take k)) ∧ (cnt 1 (xs.take (k + 1)) = cnt 1 (xs.take k)) ∧ (cnt 2 (xs.take (k + 1)) = cnt 2 (xs.take k) + 1) ∧ (cnt 3 (xs.take (k + 1)) = cnt 3 (xs.take k)) from
          ⟨cnt_miss _ _ _ hlt _ _ HT.out (by rw [h]; decide), cnt_miss _ _ _ hlt _ _ HT.out (by rw [h]; decide), cnt_hit _ _ _ hlt _ _ HT.out h, cnt_miss _ _ _ hlt _ _ HT.out (by rw [h]; decide)⟩)
        rw [h] at HA
        clear h
        generalize cnt 0 (xs.take k) = n0 at *
        generalize cnt 1 (xs.take k) = n1 at *
        generalize cnt 2 (xs.take k) = n2 at *
        generalize cnt 3 (xs.take k) = n3 at *
        go_wp2_with fail
        refine (HA.out _).mono ?_
        rintro e w2 ⟨rfl, hb2⟩
        have HB2 := Lib.hid (Below.box _ hb2)
        have HF2 := Lib.hid (HF.out.then HB2.out)
        obtain ⟨f0, f1, f2, f3, g0, g1, g2, g3⟩ := HF2.out
        have HB3 := Lib.hid (Below.call HB.out HB2.out)
        clear hb2 e1 e2
        go_wp2
        go_roundw
        case rel => exact ⟨k + 1, num_i (by omega), by omega, by
          rw [HR.out.1, HR.out.2.1, HR.out.2.2.1, HR.out.2.2.2]
          exact HF2.out.s2 _, Below.st HB3.out (Nat.le_refl _)⟩
        case measure => simp [intOf]; omega
      · have HR := Lib.hid (show (cnt 0 (xs.take (k + 1)) = cnt 0 (xs.take k)) ∧ (cnt 1 (xs.take (k + 1)) = cnt 1 (xs.take k)) ∧ (cnt 2 (xs.take (k + 1)) = cnt 2 (xs.take k)) ∧ (cnt 3 (xs.take (k + 1)) = cnt 3 (xs.take k) + 1) from
          ⟨cnt_miss _ _ _ hlt _ _ HT.out (by rw [h]; decide), cnt_miss _ _ _ hlt _ _ HT.out (by rw [h]; decide), cnt_miss _ _ _ hlt _ _ HT.out (by rw [h]; decide), cnt_hit _ _ _ hlt _ _ HT.out h⟩)
        rw [h] at HA
        clear h
        generalize cnt 0 (xs.take k) = n0 at *
        generalize cnt 1 (xs.take k) = n1 at *
        generalize cnt 2 (xs.take k) = n2 at *
        generalize cnt 3 (xs.take k) = n3 at *
        go_wp2_with fail
        refine (HA.out _).mono ?_
        rintro e w2 ⟨rfl, hb2⟩
        have HB2 := Lib.hid (Below.box _ hb2)
        have HF2 := Lib.hid (HF.out.then HB2.out)
        obtain ⟨f0, f1, f2, f3, g0, g1, g2, g3⟩ := HF2.out
        have HB3 := Lib.hid (Below.call HB.out HB2.out)
        clear hb2 e1 e2
        go_wp2
        go_roundw
        case rel => exact ⟨k + 1, num_i (by omega), by omega, by
          rw [HR.out.1, HR.out.2.1, HR.out.2.2.1, HR.out.2.2.2]
          exact HF2.out.s3 _, Below.st HB3.out (Nat.le_refl _)⟩
        case measure => simp [intOf]; omega
    · obtain rfl : k = xs.length := by omega
      rw [List.take_length] at HF
      obtain ⟨f0, f1, f2, f3, g0, g1, g2, g3⟩ := HF.out
      clear g0 g1 g2 g3
      go_wp2_with fail
      go_quiet (fail)
      go_wp2
      exact bodyPost_ret (v := tot xs) (by simp [results, Try.results34, go_sem, tot]) rfl ⟨rfl, below_drewN HB.out _⟩
end Go.Proofs.Ytdghekhkjkkgfaa
