/- The lanes that a tool touches: what the program answers. -/
import Derived.Test.YtlgpnjbhmoomfaaFI
namespace Go.Proofs.Ytlgpnjbhmoomfaa
open Go.RowKit

/-- A no-number that is drawn. -/
def nd (x y : Nat) (w : World) : Nat := Question.cut (.nanBits .f64 x y) (w.tape w.drawn (.nanBits .f64 x y))
theorem nd_nan (x y : Nat) (w : World) : nanb (nd x y w) = true := by
  apply decide_eq_true
  unfold nd
  generalize w.tape w.drawn (.nanBits .f64 x y) = t
  show 9218868437227405312 < Question.cut (.nanBits .f64 x y) t % 9223372036854775808
  simp only [Question.cut, Nat.reducePow, Nat.reduceSub]
  have h1 : t % 2 = 0 ∨ t % 2 = 1 := by omega
  have h2 : t / 2 % 4503599627370495 < 4503599627370495 := Nat.mod_lt _ (by decide)
  generalize t / 2 % 4503599627370495 = c at *
  rcases h1 with h1 | h1
  · rw [h1]; omega
  · rw [h1]; omega
theorem drewN_0 (w : World) : w.drewN 0 = w := rfl
/-- A difference, where it is a number and where not. -/
theorem sub_run (x y : Nat) (h64 : y < 18446744073709551616) : ∃ (d : Nat) (s : World → Nat), (∀ w, (binOp .sub 34 (.float .f64 x) (.float .f64 y)).run Try.prog w = .ok (.float .f64 (s w)) (w.drewN d)) ∧
    ((Ieee.double.sub x y = none ∧ ∀ w, nanb (s w) = true) ∨ ∃ p, Ieee.double.sub x y = some p ∧ nanb p = false ∧ s = fun _ => p) := by
  rcases he : Ieee.double.sub x y with _ | p
  · refine ⟨1, nd x y, fun w => ?_, .inl ⟨rfl, nd_nan x y⟩⟩
    have he' : FloatKind.f64.format.sub x y = none := he
    simp [binOp, Op.floatArith, he', Question.forced]
    exact ⟨rfl, rfl⟩
  · refine ⟨0, fun _ => p, fun w => run_float_arith (P := Try.prog) w .sub 34 .f64 _ _ _ he, .inr ⟨p, rfl, ?_, rfl⟩⟩
    unfold nanb
    rw [decide_eq_false_iff_not]
    have hc : ¬ (nan x ∨ nan y ∨ clashS x y) := fun h => by rw [sub_none x y h64 h] at he; cases he
    obtain ⟨q, hq, hn, _⟩ := sub_some x y h64 (fun h => hc (.inl h)) (fun h => hc (.inr (.inl h))) (fun h => hc (.inr (.inr h)))
    rw [he] at hq
    cases hq
    exact hn
theorem add_run (x y : Nat) : ∃ (d : Nat) (s : World → Nat), (∀ w, (binOp .add 34 (.float .f64 x) (.float .f64 y)).run Try.prog w = .ok (.float .f64 (s w)) (w.drewN d)) ∧
    ((Ieee.double.add x y = none ∧ ∀ w, nanb (s w) = true) ∨ ∃ p, Ieee.double.add x y = some p ∧ nanb p = false ∧ s = fun _ => p) := by
  rcases he : Ieee.double.add x y with _ | p
  · refine ⟨1, nd x y, fun w => ?_, .inl ⟨rfl, nd_nan x y⟩⟩
    have he' : FloatKind.f64.format.add x y = none := he
    simp [binOp, Op.floatArith, he', Question.forced]
    exact ⟨rfl, rfl⟩
  · refine ⟨0, fun _ => p, fun w => run_float_arith (P := Try.prog) w .add 34 .f64 _ _ _ he, .inr ⟨p, rfl, ?_, rfl⟩⟩
    unfold nanb
    rw [decide_eq_false_iff_not]
    have hc : ¬ (nan x ∨ nan y ∨ clash x y) := fun h => by rw [add_none x y h] at he; cases he
    obtain ⟨q, hq, hn, _⟩ := add_some x y (fun h => hc (.inl h)) (fun h => hc (.inr (.inl h))) (fun h => hc (.inr (.inr h)))
    rw [he] at hq
    cases hq
    exact hn
/-- What Reach answers: the first lane, the last one, the error. -/
def rch (l : List Nat) (x r : Nat) : Nat × Nat × Int :=
  if chkE l = 0 then
    (if nanb x = true ∨ nanb r = true then (0, 0, 20)
    else if ltb r 0 = true then (0, 0, 22)
    else match Ieee.double.sub x r, Ieee.double.add x r with
      | some a, some b => (tLo l a b, tHi l a b, tEr l a b)
      | _, _ => (0, 0, 20))
  else (0, 0, chkE l)
/-- The value that Reach hands back. -/
def rchVal (t : Nat × Nat × Int) : Value := .tuple #[.agg #[.int .i64 t.1, .int .i64 t.2.1], .int .i64 t.2.2]

set_option maxHeartbeats 4000000 in
theorem reach_any (v : Value) (xs : List Nat) (x r : Nat) (h64 : r < 18446744073709551616) (w : World) (h : KF.IsL w w.heap.size v xs) : Calls Try.prog 71 #[v, .float .f64 x, .float .f64 r] w fun e w' => e = .returned (rchVal (rch xs x r)) ∧ Below w.heap.size w w' := by
  have olt : ∀ a b, (FloatKind.f64.format.order a b == some .lt) = ltb a b := fun _ _ => rfl
  have h1 : KF.IsL (w.alloc (.cells #[.int .i64 0, .int .i64 0] 30)) (w.alloc (.cells #[.int .i64 0, .int .i64 0] 30)).heap.size v xs := h.then (Below.al (Below.refl _ _) _)
  have HK := Lib.hid (check_any v xs _ h1)
  have HB0 := Lib.hid (Below.al (Below.refl w.heap.size w) (.cells #[.int .i64 0, .int .i64 0] 30))
  by_cases hz : chkE xs = 0
  · obtain ⟨hr, b, off, cap, n, rfl, hn, hm, hb, hcell, hlt⟩ := rise_cells h1 hz
    rw [hz] at HK
    obtain ⟨ds, sV, hs, hs2⟩ := sub_run x r h64
    obtain ⟨da, aV, ha, ha2⟩ := add_run x r
    have HR := Lib.hid (show rch xs x r = (if nanb x = true ∨ nanb r = true then (0, 0, 20) else if ltb r 0 = true then (0, 0, 22) else match Ieee.double.sub x r, Ieee.double.add x r with
      | some a, some b => (tLo xs a b, tHi xs a b, tEr xs a b)
      | _, _ => (0, 0, 20)) by unfold rch; rw [if_pos hz])
    rcases Bool.eq_false_or_eq_true (nanb x) with hx | hx
    · have T : rch xs x r = (0, 0, 20) := by rw [HR.out, if_pos (.inl hx)]
      rw [T]
      clear T HR hr hcell hlt hz h h1 hs2 ha2 hn
      unfold rchVal
      go_enter Try.func71, Try.ntmps71
      go_wp2_with fail
      refine HK.out.mono ?_
      rintro e w' ⟨rfl, rfl⟩
      go_wp2_with fail
      refine (isNone_any _ _).mono ?_
      rintro e w' ⟨rfl, rfl⟩
      go_wp2_with (go_at_call 87; refine (isNone_any _ _).mono ?_; rintro e w' ⟨rfl, rfl⟩)
      exact bodyPost_ret (v := .tuple #[.agg #[.int .i64 0, .int .i64 0], .int .i64 20]) (by simp [results, Try.results71, go_sem]) rfl ⟨rfl, Below.st (Below.st (below_drewN HB0.out _) (Nat.le_refl _)) (Nat.le_refl _)⟩
    · rcases Bool.eq_false_or_eq_true (nanb r) with hy | hy
      · have T : rch xs x r = (0, 0, 20) := by rw [HR.out, if_pos (.inr hy)]
        rw [T]
        clear T HR hr hcell hlt hz h h1 hs2 ha2 hn
        unfold rchVal
        go_enter Try.func71, Try.ntmps71
        go_wp2_with fail
        refine HK.out.mono ?_
        rintro e w' ⟨rfl, rfl⟩
        go_wp2_with (go_at_call 87; refine (isNone_any _ _).mono ?_; rintro e w' ⟨rfl, rfl⟩)
        exact bodyPost_ret (v := .tuple #[.agg #[.int .i64 0, .int .i64 0], .int .i64 20]) (by simp [results, Try.results71, go_sem]) rfl ⟨rfl, Below.st (Below.st (below_drewN HB0.out _) (Nat.le_refl _)) (Nat.le_refl _)⟩
      · have hor : ¬ (nanb x = true ∨ nanb r = true) := by rw [hx, hy]; simp
        have HR2 := Lib.hid (HR.out.trans (if_neg hor))
        clear HR hor
        rcases Bool.eq_false_or_eq_true (ltb r 0) with hl | hl
        · have T : rch xs x r = (0, 0, 22) := by rw [HR2.out, if_pos hl]
          rw [T]
          clear T HR2 hr hcell hlt hz h h1 hs2 ha2 hn
          unfold rchVal
          go_enter Try.func71, Try.ntmps71
          go_wp2_with fail
          refine HK.out.mono ?_
          rintro e w' ⟨rfl, rfl⟩
          go_wp2_with (go_at_call 87; refine (isNone_any _ _).mono ?_; rintro e w' ⟨rfl, rfl⟩)
          exact bodyPost_ret (v := .tuple #[.agg #[.int .i64 0, .int .i64 0], .int .i64 22]) (by simp [results, Try.results71, go_sem]) rfl ⟨rfl, Below.st (Below.st (below_drewN HB0.out _) (Nat.le_refl _)) (Nat.le_refl _)⟩
        · have HR3 := Lib.hid (HR2.out.trans (if_neg (by rw [hl]; simp)))
          clear HR2
          rcases hs2 with ⟨es, hs2⟩ | ⟨a, es, hs2, rfl⟩
          · have T : rch xs x r = (0, 0, 20) := by rw [HR3.out, es]
            rw [T]
            clear T HR3 hr hcell hlt hz h h1 ha2 hn es
            unfold rchVal
            go_enter Try.func71, Try.ntmps71
            go_wp2_with fail
            refine HK.out.mono ?_
            rintro e w' ⟨rfl, rfl⟩
            go_wp2_with (go_at_call 87; refine (isNone_any _ _).mono ?_; rintro e w' ⟨rfl, rfl⟩)
            exact bodyPost_ret (v := .tuple #[.agg #[.int .i64 0, .int .i64 0], .int .i64 20]) (by simp [results, Try.results71, go_sem]) rfl ⟨rfl, Below.st (Below.st (below_drewN HB0.out _) (Nat.le_refl _)) (Nat.le_refl _)⟩
          · rcases ha2 with ⟨ea, ha2⟩ | ⟨q, ea, ha2, rfl⟩
            · have T : rch xs x r = (0, 0, 20) := by rw [HR3.out, es, ea]
              rw [T]
              clear T HR3 hr hcell hlt hz h h1 hn es ea
              unfold rchVal
              go_enter Try.func71, Try.ntmps71
              go_wp2_with fail
              refine HK.out.mono ?_
              rintro e w' ⟨rfl, rfl⟩
              go_wp2_with (go_at_call 87; refine (isNone_any _ _).mono ?_; rintro e w' ⟨rfl, rfl⟩)
              exact bodyPost_ret (v := .tuple #[.agg #[.int .i64 0, .int .i64 0], .int .i64 20]) (by simp [results, Try.results71, go_sem]) rfl ⟨rfl, Below.st (Below.st (below_drewN HB0.out _) (Nat.le_refl _)) (Nat.le_refl _)⟩
            · have T : rch xs x r = (tLo xs a q, tHi xs a q, tEr xs a q) := by rw [HR3.out, es, ea]
              have HT := Lib.hid (fun d => touched_any b off cap n xs hn hm ((w.alloc (.cells #[.int .i64 0, .int .i64 0] 30)).drewN d) hb hcell a q)
              rw [T]
              clear T HR3 hr hcell hlt hz h h1 hn es ea
              generalize tLo xs a q = A at *
              generalize tHi xs a q = B at *
              generalize tEr xs a q = C at *
              unfold rchVal
              dsimp only
              go_enter Try.func71, Try.ntmps71
              go_wp2_with fail
              refine HK.out.mono ?_
              rintro e w' ⟨rfl, rfl⟩
              go_wp2_with (first | (go_at_call 87; refine (isNone_any _ _).mono ?_; rintro e w' ⟨rfl, rfl⟩) | (go_at_call 88; refine (HT.out _).mono ?_; rintro e w2 ⟨rfl, hb2⟩; have r0 : w2.cell? ⟨w.heap.size, 0, none⟩ = some (.int .i64 0) := keep_cell hb2 (by simp); have r1 : w2.cell? ⟨w.heap.size, 1, none⟩ = some (.int .i64 0) := keep_cell hb2 (by simp); have z0 : w2.frozen? ⟨w.heap.size, 0, none⟩ = false := (hb2.frozen (p := ⟨w.heap.size, 0, none⟩) (by simp)).trans (by simp); have z1 : w2.frozen? ⟨w.heap.size, 1, none⟩ = false := (hb2.frozen (p := ⟨w.heap.size, 1, none⟩) (by simp)).trans (by simp); have HB2 := Lib.hid (Below.call (below_drewN HB0.out _) hb2); clear hb2))
              exact bodyPost_ret (v := .tuple #[.agg #[.int .i64 A, .int .i64 B], .int .i64 C]) (by simp [results, Try.results71, go_sem, r0, r1]) rfl ⟨rfl, Below.st (Below.st HB2.out (Nat.le_refl _)) (Nat.le_refl _)⟩
  · have T : rch xs x r = (0, 0, chkE xs) := by unfold rch; rw [if_neg hz]
    rw [T]
    have hz' : (chkE xs != 0) = true := by rw [bne_iff_ne]; exact hz
    clear T h h1 hz
    generalize chkE xs = c at *
    unfold rchVal
    go_enter Try.func71, Try.ntmps71
    go_wp2_with fail
    refine HK.out.mono ?_
    rintro e w' ⟨rfl, rfl⟩
    go_wp2
    exact bodyPost_ret (v := .tuple #[.agg #[.int .i64 0, .int .i64 0], .int .i64 c]) (by simp [results, Try.results71, go_sem]) rfl ⟨rfl, HB0.out⟩
end Go.Proofs.Ytlgpnjbhmoomfaa
