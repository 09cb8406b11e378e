/- What must come of every program (layer 7). -/
import Derived.Test.YtegghoniboebkaaFL
namespace Go.Proofs.Ytegghoniboebkaa
open Go.RowKit

theorem alloc_at (w : World) (cs : Array Value) (t : TypeId) (o : Nat) : (w.alloc (.cells cs t)).cell? ⟨w.heap.size, o, none⟩ = cs[o]? := by
  unfold World.cell?
  rw [heap_alloc_new]
  rfl
/-- A literal list, laid in a new block. -/
theorem Lk.IsL.lits {P : Program} {α : Type} {K : Lk P α} (w : World) (xs : List α) (cs : Array Value) (hx : ∀ x ∈ xs, K.ok x) (hcs : cs = (K.flat xs).toArray) (hl : xs.length ≤ 9223372036854775807) (H : Nat) (e : w.heap.size = H) :
    K.IsL (w.alloc (.cells cs K.E)) (H + 1) (.slice (some ⟨H, 0, none⟩) xs.length xs.length) xs := by
  subst e
  subst hcs
  refine ⟨⟨_, _, rfl, Nat.le_refl _, fun _ => ⟨_, _, rfl, Nat.lt_succ_self _, fun i hi j u hu => ?_⟩⟩, hx, hl⟩
  have hj : j < K.n := by
    have := (List.getElem?_eq_some_iff.1 hu).1
    rw [K.len] at this
    exact this
  rw [Nat.zero_add, alloc_at, List.getElem?_toArray, K.flat_at xs i j hi hj, hu]

def bl4 : List Nat := [0, 4621256167635550208, 4625759767262920704, 9218868437227405312]
def bl2 : List Nat := [4607182418800017408, 4607182418800017408]
theorem bl4_chk : chkE bl4 = 0 := by decide +kernel
theorem bl2_chk : chkE bl2 = 70 := by decide +kernel
theorem bl4_lane : laneV bl4 4621256167635550208 = 1 ∧ laneE bl4 4621256167635550208 = 0 := by decide +kernel
theorem bl4_off : laneV bl4 13830554455654793216 = 0 ∧ laneE bl4 13830554455654793216 = 71 := by decide +kernel
theorem bl4_rch : rch bl4 4621256167635550208 4602678819172646912 = (0, 1, 0) := by decide +kernel
theorem bl4_wid : widV bl4 1 = 4621256167635550208 := by decide +kernel
theorem eq_9 : (FloatKind.f64.format.order 4621256167635550208 4621256167635550208 == some .eq) = true := by decide +kernel

set_option maxRecDepth 100000 in
set_option maxHeartbeats 4000000 in
theorem lives7 (w : World) : Calls Try.prog 10 #[] w fun e w' => e = .returned (.bool true) ∧ Below w.heap.size w w' := by
  have h4 : ∀ x ∈ bl4, x < 18446744073709551616 := by decide
  have h2 : ∀ x ∈ bl2, x < 18446744073709551616 := by decide
  have HA := Lib.hid (fun w0 : World => Lk.IsL.lits (K := KF) w0 bl4 #[.float .f64 0, .float .f64 4621256167635550208, .float .f64 4625759767262920704, .float .f64 9218868437227405312] h4 rfl (by decide) _ rfl)
  have HB := Lib.hid (fun w0 : World => Lk.IsL.lits (K := KF) w0 bl2 #[.float .f64 4607182418800017408, .float .f64 4607182418800017408] h2 rfl (by decide) _ rfl)
  have HQ := Lib.hid eq_9
  clear h4 h2
  go_enter Try.func10, Try.ntmps10
  go_wp2_with fail
  refine (inf_any _ _).mono ?_
  rintro e w' ⟨rfl, rfl⟩
  have hA : KF.IsL (w.alloc (.cells #[.float .f64 0, .float .f64 4621256167635550208, .float .f64 4625759767262920704, .float .f64 9218868437227405312] 28)) (w.alloc (.cells #[.float .f64 0, .float .f64 4621256167635550208, .float .f64 4625759767262920704, .float .f64 9218868437227405312] 28)).heap.size (.slice (some ⟨w.heap.size, 0, none⟩) 4 4) bl4 := (HA.out w).more (by simp)
  have hB : Below w.heap.size w (w.alloc (.cells #[.float .f64 0, .float .f64 4621256167635550208, .float .f64 4625759767262920704, .float .f64 9218868437227405312] 28)) := Below.al (Below.refl _ _) _
  go_wp2_with fail
  generalize w.alloc (.cells #[.float .f64 0, .float .f64 4621256167635550208, .float .f64 4625759767262920704, .float .f64 9218868437227405312] 28) = w1 at hA hB ⊢
  have L1 := Lib.hid hA
  have B1 := Lib.hid hB
  clear hA hB HA
  refine (lane_any _ bl4 _ w1 L1.out).mono ?_
  rintro e w2 ⟨rfl, hb⟩
  rw [bl4_lane.1, bl4_lane.2]
  have L2 := Lib.hid (L1.out.then hb)
  have B2 := Lib.hid (Below.call B1.out hb)
  clear hb L1 B1
  go_wp2_with fail
  refine (reach_any _ bl4 _ _ (by decide) w2 L2.out).mono ?_
  rintro e w3 ⟨rfl, hb⟩
  rw [bl4_rch]
  unfold rchVal
  have L3 := Lib.hid (L2.out.then hb)
  have B3 := Lib.hid (Below.call B2.out hb)
  clear hb L2 B2
  dsimp only
  go_wp2_with fail
  have hL4 := L3.out.then (Below.al (Below.refl _ _) (.cells #[.int .i64 0, .int .i64 1] 35))
  have hB4 := Below.al B3.out (.cells #[.int .i64 0, .int .i64 1] 35)
  have hs0 : (w3.alloc (.cells #[.int .i64 0, .int .i64 1] 35)).cell? ⟨w3.heap.size, 0, none⟩ = some (.int .i64 0) := by simp
  have hs1 : (w3.alloc (.cells #[.int .i64 0, .int .i64 1] 35)).cell? ⟨w3.heap.size, 1, none⟩ = some (.int .i64 1) := by simp
  generalize w3.alloc (.cells #[.int .i64 0, .int .i64 1] 35) = w4 at hL4 hB4 hs0 hs1 ⊢
  generalize w3.heap.size = g at hs0 hs1 ⊢
  have L4 := Lib.hid hL4
  have B4 := Lib.hid hB4
  clear hL4 hB4 L3 B3
  refine (lane_any _ bl4 _ w4 L4.out).mono ?_
  rintro e w5 ⟨rfl, hb⟩
  rw [bl4_off.1, bl4_off.2]
  have L5 := Lib.hid (L4.out.then hb)
  have B5 := Lib.hid (Below.call B4.out hb)
  have s0 := keep_cell hb hs0
  have s1 := keep_cell hb hs1
  clear hb L4 B4 hs0 hs1
  go_wp2_with fail
  refine (check_any _ bl4 w5 L5.out).mono ?_
  rintro e w' ⟨rfl, rfl⟩
  rw [bl4_chk]
  go_wp2_with fail
  have hL6 := (HB.out w5)
  have hL6' : KF.IsL (w5.alloc (.cells #[.float .f64 4607182418800017408, .float .f64 4607182418800017408] 28)) (w5.alloc (.cells #[.float .f64 4607182418800017408, .float .f64 4607182418800017408] 28)).heap.size (.slice (some ⟨w5.heap.size, 0, none⟩) 2 2) bl2 := hL6.more (by simp)
  have hB6 := Below.al (Below.refl w5.heap.size w5) (.cells #[.float .f64 4607182418800017408, .float .f64 4607182418800017408] 28)
  clear hL6
  generalize w5.alloc (.cells #[.float .f64 4607182418800017408, .float .f64 4607182418800017408] 28) = w6 at hL6' hB6 ⊢
  have q0 := keep_cell hB6 s0
  have q1 := keep_cell hB6 s1
  have L6 := Lib.hid (L5.out.then hB6)
  have B6 := Lib.hid (Below.call B5.out hB6)
  have L7 := Lib.hid hL6'
  clear hL6' hB6 s0 s1 L5 B5 HB
  refine (check_any _ bl2 w6 L7.out).mono ?_
  rintro e w' ⟨rfl, rfl⟩
  rw [bl2_chk]
  go_wp2_with fail
  refine (width_any _ bl4 _ w6 L6.out).mono ?_
  rintro e w' ⟨rfl, d, rfl⟩
  rw [bl4_wid]
  have hq := HQ.out
  go_wp2_with fail
  go_ret
  exact ⟨rfl, below_drewN B6.out _⟩
end Go.Proofs.Ytegghoniboebkaa
