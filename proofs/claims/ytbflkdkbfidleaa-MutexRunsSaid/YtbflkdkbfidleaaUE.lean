/- Mutexes: who holds what is waited for; flags compared. -/
import Derived.Test.YtbflkdkbfidleaaUD
import Derived.Laws.StructEq
namespace Go.Proofs.Ytbflkdkbfidleaa
open Go.RowKit
theorem holder_any (v : Value) (t : List Int) (id : Int) (w : World) (hv : KI.IsL w w.heap.size v t) : Calls Try.prog 62 #[v, .int .i64 id] w fun e w' => e = .returned (.int .i64 (hdV t id)) ∧ w = w' := by
  have HV := Lib.hid hv
  obtain ⟨A, c, rfl, hc⟩ := hv.shape
  have hD : hdV t id = if hasB t.length id then t.getD id.toNat 0 else 0 := rfl
  rw [hD]
  clear hD hv
  have HA := Lib.hid (fun w => has_o A t.length c id w)
  have HI := Lib.hid (hasB_iff t.length id)
  generalize hasB t.length id = q at *
  cases q
  · simp only [Bool.false_eq_true, if_false]
    go_enter Try.func62, Try.ntmps62
    go_wp2_with fail
    refine (HA.out _).mono ?_
    rintro e w1 ⟨rfl, rfl⟩
    go_wp2
    go_ret
    exact ⟨rfl, rfl⟩
  · obtain ⟨h0, h1⟩ := HI.out.1 rfl
    simp only [if_true]
    obtain ⟨j, rfl⟩ := Int.eq_ofNat_of_zero_le h0
    rw [show ((j : Int)).toNat = j from rfl]
    have hj : j < t.length := by omega
    obtain ⟨b, off, cap', hs, _, hb, _, hcell, _⟩ := KI.cells HV.out (by omega)
    simp only [Value.slice.injEq] at hs
    obtain ⟨rfl, _, rfl⟩ := hs
    have e1 := hcell j hj
    clear hcell
    generalize t.getD j 0 = x at *
    go_enter Try.func62, Try.ntmps62
    go_wp2_with fail
    refine (HA.out _).mono ?_
    rintro e w1 ⟨rfl, rfl⟩
    go_wp2
    go_ret
    exact ⟨rfl, rfl⟩
def rwB (t ws : List Int) : Bool := rgO t && decide (ws.length ≤ 8)
theorem rwaits_any (v u : Value) (t ws : List Int) (w : World) (hv : KI.IsL w w.heap.size v t) (hu : KI.IsL w w.heap.size u ws) : Calls Try.prog 47 #[v, u] w fun e w' => e = .returned (.bool (rwB t ws)) ∧ Below w.heap.size w w' := by
  have HR := Lib.hid (right_o v t w hv)
  obtain ⟨A, c, rfl, hc⟩ := hv.shape
  obtain ⟨A2, c2, rfl, hc2⟩ := hu.shape
  have hl := hu.2.2
  have hD : rwB t ws = (rgO t && decide (ws.length ≤ 8)) := rfl
  rw [hD]
  clear hD hv hu
  generalize rgO t = q at *
  cases q
  · simp only [Bool.false_and]
    go_enter Try.func47, Try.ntmps47
    go_wp2_with fail
    refine HR.out.mono ?_
    rintro e w1 ⟨rfl, hb⟩
    go_wp2
    go_ret
    exact ⟨rfl, hb⟩
  · simp only [Bool.true_and]
    go_enter Try.func47, Try.ntmps47
    go_wp2_with fail
    refine HR.out.mono ?_
    rintro e w1 ⟨rfl, hb⟩
    go_wp2
    go_ret
    exact ⟨ret_b (by rw [decide_eq_decide]; omega), hb⟩
set_option maxRecDepth 100000 in
set_option maxHeartbeats 4000000 in
theorem run_eq9 (s : Nat → Bool) (w : World) : (Op.equalIn 10000 56 (.agg #[.bool (s 0), .bool (s 1), .bool (s 2), .bool (s 3), .bool (s 4), .bool (s 5), .bool (s 6), .bool (s 7), .bool (s 8)]) (.agg #[.bool false, .bool false, .bool false, .bool false, .bool false, .bool false, .bool false, .bool false, .bool false])).run Try.prog w = .ok (!(s 0 || s 1 || s 2 || s 3 || s 4 || s 5 || s 6 || s 7 || s 8)) w := by
  have hs : (sizeOf 4).run Try.prog w = .ok 1 w := by kernel_rfl
  show (Op.equalIn (9999 + 1) 56 (.agg #[.bool (s 0), .bool (s 1), .bool (s 2), .bool (s 3), .bool (s 4), .bool (s 5), .bool (s 6), .bool (s 7), .bool (s 8)]) (.agg #[.bool false, .bool false, .bool false, .bool false, .bool false, .bool false, .bool false, .bool false, .bool false])).run Try.prog w = _
  have q : ∀ x y : Bool, (Op.equalIn 9999 4 (.bool x) (.bool y)).run Try.prog w = .ok (x == y) w := fun x y => run_equalIn_bool w 9998 4 x y Try.underlying4
  have p0 : ∀ x0 x1 x2 x3 x4 x5 x6 x7 x8 : Value, (part 4 #[x0, x1, x2, x3, x4, x5, x6, x7, x8] 0).run Try.prog w = .ok x0 w := fun _ _ _ _ _ _ _ _ _ => by kernel_rfl
  have p1 : ∀ x0 x1 x2 x3 x4 x5 x6 x7 x8 : Value, (part 4 #[x0, x1, x2, x3, x4, x5, x6, x7, x8] 1).run Try.prog w = .ok x1 w := fun _ _ _ _ _ _ _ _ _ => by kernel_rfl
  have p2 : ∀ x0 x1 x2 x3 x4 x5 x6 x7 x8 : Value, (part 4 #[x0, x1, x2, x3, x4, x5, x6, x7, x8] 2).run Try.prog w = .ok x2 w := fun _ _ _ _ _ _ _ _ _ => by kernel_rfl
  have p3 : ∀ x0 x1 x2 x3 x4 x5 x6 x7 x8 : Value, (part 4 #[x0, x1, x2, x3, x4, x5, x6, x7, x8] 3).run Try.prog w = .ok x3 w := fun _ _ _ _ _ _ _ _ _ => by kernel_rfl
  have p4 : ∀ x0 x1 x2 x3 x4 x5 x6 x7 x8 : Value, (part 4 #[x0, x1, x2, x3, x4, x5, x6, x7, x8] 4).run Try.prog w = .ok x4 w := fun _ _ _ _ _ _ _ _ _ => by kernel_rfl
  have p5 : ∀ x0 x1 x2 x3 x4 x5 x6 x7 x8 : Value, (part 4 #[x0, x1, x2, x3, x4, x5, x6, x7, x8] 5).run Try.prog w = .ok x5 w := fun _ _ _ _ _ _ _ _ _ => by kernel_rfl
  have p6 : ∀ x0 x1 x2 x3 x4 x5 x6 x7 x8 : Value, (part 4 #[x0, x1, x2, x3, x4, x5, x6, x7, x8] 6).run Try.prog w = .ok x6 w := fun _ _ _ _ _ _ _ _ _ => by kernel_rfl
  have p7 : ∀ x0 x1 x2 x3 x4 x5 x6 x7 x8 : Value, (part 4 #[x0, x1, x2, x3, x4, x5, x6, x7, x8] 7).run Try.prog w = .ok x7 w := fun _ _ _ _ _ _ _ _ _ => by kernel_rfl
  have p8 : ∀ x0 x1 x2 x3 x4 x5 x6 x7 x8 : Value, (part 4 #[x0, x1, x2, x3, x4, x5, x6, x7, x8] 8).run Try.prog w = .ok x8 w := fun _ _ _ _ _ _ _ _ _ => by kernel_rfl
  rw [Op.equalIn]
  simp only [Sem.run_bind, run_underlying Try.underlying56, Result.andThen_ok, hs]
  rw [Std.Legacy.Range.forIn_eq_forIn_range']
  simp only [Std.Legacy.Range.size, List.range', Nat.sub_zero, Nat.add_sub_cancel, Nat.div_one, List.forIn_cons, List.forIn_nil, Sem.run_bind, p0, q, Nat.zero_mul, Result.andThen_ok]
  cases s 0
  rotate_left
  · simp [Sem.run_pure, Result.andThen]
  cases s 1
  rotate_left
  · simp [Sem.run_bind, Sem.run_pure, Result.andThen, p1, q]
  cases s 2
  rotate_left
  · simp [Sem.run_bind, Sem.run_pure, Result.andThen, p1, p2, q]
  cases s 3
  rotate_left
  · simp [Sem.run_bind, Sem.run_pure, Result.andThen, p1, p2, p3, q]
  cases s 4
  rotate_left
  · simp [Sem.run_bind, Sem.run_pure, Result.andThen, p1, p2, p3, p4, q]
  cases s 5
  rotate_left
  · simp [Sem.run_bind, Sem.run_pure, Result.andThen, p1, p2, p3, p4, p5, q]
  cases s 6
  rotate_left
  · simp [Sem.run_bind, Sem.run_pure, Result.andThen, p1, p2, p3, p4, p5, p6, q]
  cases s 7
  rotate_left
  · simp [Sem.run_bind, Sem.run_pure, Result.andThen, p1, p2, p3, p4, p5, p6, p7, q]
  cases s 8
  rotate_left
  · simp [Sem.run_bind, Sem.run_pure, Result.andThen, p1, p2, p3, p4, p5, p6, p7, p8, q]
  simp [Sem.run_bind, Sem.run_pure, Result.andThen, q, p1, p2, p3, p4, p5, p6, p7, p8]
end Go.Proofs.Ytbflkdkbfidleaa
