/- The short run that must come of every program, for the floats. -/
import Derived.Test.YtdnifilmckialaaDoorWO
import Derived.Test.YtdnifilmckialaaDoorWE
namespace Go.Proofs.YtdnifilmckialaaDoor
open Go.RowKit

theorem Tab.size {w : World} (h : Tab w) : 1 < w.heap.size := by
  have e := h 0 (by decide)
  exact World.block_lt_of_cell? w _ e
theorem Tab.below {w w' : World} (h : Tab w) (hb : Below w.heap.size w w') : Tab w' := fun j hj => (hb.cell (p := ⟨1, j, none⟩) h.size).trans (h j hj)
theorem Tab.drewN {w : World} (h : Tab w) (d : Nat) : Tab (w.drewN d) := h

theorem bl_le {B B' : Nat} {w w' : World} (h : Below B w w') (hb : B' ≤ B) : Below B' w w' := ⟨h.os, h.tape, h.output, h.size, fun k hk => h.block k (by omega)⟩
theorem parts_6 (w : World) (hT : Tab w) : Calls Tryd.prog 12 #[.float .f64 4618441417868443648] w fun e w' => e = .returned (.tuple #[.int .i64 3, .int .i64 1]) ∧ w = w' := by
  have h := parts_any 4618441417868443648 (by decide) w hT
  rw [show pm 4618441417868443648 = 3 by decide +kernel, show pe 4618441417868443648 = 1 by decide +kernel] at h
  exact h
theorem copysign_0 (w : World) : Calls Tryd.prog 39 #[.float .f64 0, .float .f64 13830554455654793216] w fun e w' => e = .returned (.float .f64 9223372036854775808) ∧ w = w' := copysign_any 0 13830554455654793216 (by decide) (by decide) w
theorem inf_minus1 (w : World) : Calls Tryd.prog 40 #[.int .i64 (-1)] w fun e w' => e = .returned (.float .f64 18442240474082181120) ∧ w = w' := inf_any (-1) w
theorem inf_plus1 (w : World) : Calls Tryd.prog 40 #[.int .i64 1] w fun e w' => e = .returned (.float .f64 9218868437227405312) ∧ w = w' := inf_any 1 w
theorem class_inf (w : World) : Calls Tryd.prog 15 #[.float .f64 9218868437227405312] w fun e w' => e = .returned (.int .i64 2) ∧ w = w' := by
  have h := class_any 9218868437227405312 (by decide) w
  rw [show cls 9218868437227405312 = 2 by decide +kernel] at h
  exact h
theorem make_15 (w : World) : Calls Tryd.prog 20 #[.int .i64 3, .int .i64 (-1)] w fun e w' => e = .returned (.float .f64 4609434218613702656) ∧ ∃ d, w' = w.drewN d := by
  have h := make_any 3 (-1) (by decide) (by decide) w
  rw [show mk 3 (-1) = 4609434218613702656 by decide +kernel] at h
  exact h
theorem minus_2 (w : World) : Calls Tryd.prog 17 #[.float .f64 13835058055282163712] w fun e w' => e = .returned (.bool true) ∧ w = w' := by
  have h := minus_any 13835058055282163712 (by decide) w
  rw [show mns 13835058055282163712 = true by decide +kernel] at h
  exact h
theorem ahead_12 (w : World) : Calls Tryd.prog 23 #[.float .f64 4607182418800017408, .float .f64 4611686018427387904] w fun e w' => e = .returned (.bool true) ∧ w = w' := by
  have h := ahead_any 4607182418800017408 4611686018427387904 (by decide) (by decide) w
  rw [show ahd 4607182418800017408 4611686018427387904 = true by decide +kernel] at h
  exact h
theorem same_nan (w : World) : Calls Tryd.prog 24 #[.float .f64 9221120237041090561, .float .f64 9221120237041090561] w fun e w' => e = .returned (.bool true) ∧ w = w' := by
  have h := same_any 9221120237041090561 9221120237041090561 (by decide) (by decide) w
  rw [show sam 9221120237041090561 9221120237041090561 = true by decide +kernel] at h
  exact h
/-- A literal list of floats, laid in a new block. -/
theorem cells_lit (w : World) (xs : List Nat) (cs : Array Value) (h : cs = (flv xs).toArray) : Cells (w.alloc (.cells cs 22)) w.heap.size 0 xs := by
  subst h
  have h1 : Row (w.alloc (.cells (flv xs).toArray 22)) w.heap.size xs := heap_alloc_new w _
  exact h1.cells
theorem ends_4 (w : World) (b : Nat) (hc : Cells w b 0 [4611686018427387904, 9221120237041090561, 9223372036854775808, 0]) : Calls Tryd.prog 28 #[.slice (some ⟨b, 0, none⟩) 4 4] w fun e w' => e = .returned (.tuple #[.float .f64 9223372036854775808, .float .f64 4611686018427387904, .int .i64 3]) ∧ w = w' := by
  have h := ends_any b 0 4 4 _ rfl (by decide) (by decide) w hc
  rw [show ends [4611686018427387904, 9221120237041090561, 9223372036854775808, 0] = (9223372036854775808, 4611686018427387904, 3) by decide +kernel] at h
  exact h
theorem two_sorted (zs : List Nat) (hp : zs.Perm [4607182418800017408, 18442240474082181120]) (hs : Srt zs) : zs = [18442240474082181120, 4607182418800017408] := by
  have hp2 : zs.Perm [18442240474082181120, 4607182418800017408] := hp.trans (List.Perm.swap _ _ _)
  have hs2 : Srt [18442240474082181120, 4607182418800017408] := by
    refine List.Pairwise.cons (fun b hb => ?_) (List.pairwise_singleton _ _)
    obtain rfl := List.mem_singleton.1 hb
    decide +kernel
  refine List.Perm.eq_of_pairwise (le := fun a b => le a b = true) ?_ hs hs2 hp2
  intro a b ha hb h1 h2
  have ha' := hp.subset ha
  simp only [List.mem_cons, List.not_mem_nil, or_false] at ha' hb
  have hn : ¬ le 4607182418800017408 18442240474082181120 = true := by decide +kernel
  rcases ha' with rfl | rfl <;> rcases hb with rfl | rfl
  · exact absurd h1 hn
  · rfl
  · rfl
  · exact absurd h2 hn
theorem sort_2 (w : World) (b : Nat) (hb : b < w.heap.size) (hc : Cells w b 0 [4607182418800017408, 18442240474082181120]) : Calls Tryd.prog 25 #[.slice (some ⟨b, 0, none⟩) 2 2] w fun e w' => ∃ G, e = .returned (.slice (some ⟨G, 0, none⟩) 2 2) ∧ w'.cell? ⟨G, 1, none⟩ = some (.float .f64 4607182418800017408) ∧ Below w.heap.size w w' :=
  (sort_any b 0 2 2 _ rfl (by decide) (by decide) (by decide) w hc hb).mono fun _ _ ⟨G, zs, he, hp, hs, hr, hbl⟩ => by
    obtain rfl := two_sorted zs hp hs
    exact ⟨G, he, hr.cell 1 (by decide), hbl⟩
theorem ord_15 : FloatKind.f64.format.order 4609434218613702656 4609434218613702656 = some .eq := by decide +kernel
theorem ord_2 : FloatKind.f64.format.order 4611686018427387904 4611686018427387904 = some .eq := by decide +kernel
theorem ord_1 : FloatKind.f64.format.order 4607182418800017408 4607182418800017408 = some .eq := by decide +kernel

set_option maxRecDepth 100000 in
set_option maxHeartbeats 2000000 in
theorem lives1 (w : World) (hT : Tab w) : Calls Tryd.prog 14 #[] w fun e w' => e = .returned (.bool true) ∧ Below w.heap.size w w' := by
  have hb := fun b => run_bits b
  have o1 := ord_15
  have o2 := ord_2
  have o3 := ord_1
  go_enter Tryd.func14, Tryd.ntmps14
  go_wp2_with fail
  refine (parts_6 _ hT).mono ?_
  rintro e w' ⟨rfl, rfl⟩
  go_wp2_with fail
  refine (nan_any _).mono ?_
  rintro e w' ⟨rfl, rfl⟩
  go_wp2_with fail
  refine (copysign_0 _).mono ?_
  rintro e w' ⟨rfl, rfl⟩
  go_wp2_with fail
  refine (ends_4 (w.alloc (.cells #[.float .f64 4611686018427387904, .float .f64 9221120237041090561, .float .f64 9223372036854775808, .float .f64 0] 22)) w.heap.size (cells_lit w [4611686018427387904, 9221120237041090561, 9223372036854775808, 0] _ rfl)).mono ?_
  rintro e w' ⟨rfl, rfl⟩
  have hB : Below w.heap.size w (w.alloc (.cells #[.float .f64 4611686018427387904, .float .f64 9221120237041090561, .float .f64 9223372036854775808, .float .f64 0] 22)) := (Below.refl _ _).alloc (Nat.le_refl _) _
  generalize w.alloc (.cells #[.float .f64 4611686018427387904, .float .f64 9221120237041090561, .float .f64 9223372036854775808, .float .f64 0] 22) = w1 at hB ⊢
  go_wp2_with fail
  refine (inf_minus1 _).mono ?_
  rintro e w' ⟨rfl, rfl⟩
  go_wp2_with fail
  have hlt : w1.heap.size < (w1.alloc (.cells #[.float .f64 4607182418800017408, .float .f64 18442240474082181120] 22)).heap.size := by simp
  refine (sort_2 (w1.alloc (.cells #[.float .f64 4607182418800017408, .float .f64 18442240474082181120] 22)) w1.heap.size hlt (cells_lit w1 [4607182418800017408, 18442240474082181120] _ rfl)).mono ?_
  rintro e w' ⟨G, rfl, hcell, hbl⟩
  have hB2 : Below w.heap.size w w' := hB.trans (bl_le (((Below.refl _ _).alloc (Nat.le_refl _) _).trans (bl_le hbl (Nat.le_of_lt hlt))) hB.size)
  go_wp2_with fail
  refine (inf_plus1 _).mono ?_
  rintro e w'' ⟨rfl, rfl⟩
  go_wp2_with fail
  refine (class_inf _).mono ?_
  rintro e w'' ⟨rfl, rfl⟩
  go_wp2_with fail
  refine (make_15 _).mono ?_
  rintro e w'' ⟨rfl, d, rfl⟩
  go_wp2_with fail
  refine (minus_2 _).mono ?_
  rintro e w'' ⟨rfl, rfl⟩
  go_wp2_with fail
  refine (ahead_12 _).mono ?_
  rintro e w'' ⟨rfl, rfl⟩
  go_wp2_with fail
  refine (nan_any _).mono ?_
  rintro e w'' ⟨rfl, rfl⟩
  go_wp2_with fail
  refine (nan_any _).mono ?_
  rintro e w'' ⟨rfl, rfl⟩
  go_wp2_with fail
  refine (same_nan _).mono ?_
  rintro e w'' ⟨rfl, rfl⟩
  go_wp2_with fail
  go_ret
  exact ⟨rfl, below_drewN hB2 _⟩
end Go.Proofs.YtdnifilmckialaaDoor
