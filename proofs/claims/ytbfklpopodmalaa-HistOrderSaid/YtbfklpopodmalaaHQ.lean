/- Histories: two courses sorted. -/
import Derived.Test.YtbfklpopodmalaaHP
import Derived.BigRegion
namespace Go.Proofs.Ytbfklpopodmalaa
open Go.RowKit Go.Maps
/-- A row of two courses in a block of one's own. -/
structure Tw (w : World) (g : Nat) (a b c d : Int) : Prop where
  c0 : w.cell? ⟨g, 0, none⟩ = some (.int .i64 a)
  c1 : w.cell? ⟨g, 1, none⟩ = some (.int .i64 b)
  c2 : w.cell? ⟨g, 2, none⟩ = some (.int .i64 c)
  c3 : w.cell? ⟨g, 3, none⟩ = some (.int .i64 d)
  z : ∀ i, w.frozen? ⟨g, i, none⟩ = false
theorem Tw.lt {w : World} {g : Nat} {a b c d : Int} (t : Tw w g a b c d) : g < w.heap.size := World.block_lt_of_cell? w ⟨g, 0, none⟩ t.c0
theorem Tw.then {w w' : World} {g : Nat} {a b c d : Int} (t : Tw w g a b c d) (hb : Below w.heap.size w w') : Tw w' g a b c d :=
  ⟨keep_cell hb t.c0, keep_cell hb t.c1, keep_cell hb t.c2, keep_cell hb t.c3, fun i => (hb.frozen (p := ⟨g, i, none⟩) t.lt).trans (t.z i)⟩
theorem Tw.drewN {w : World} {g : Nat} {a b c d : Int} (t : Tw w g a b c d) (n : Nat) : Tw (w.drewN n) g a b c d := ⟨t.c0, t.c1, t.c2, t.c3, t.z⟩
theorem Tw.swap {w : World} {g : Nat} {a b c d : Int} (t : Tw w g a b c d) : Tw ((((w.setCell ⟨g, 2, none⟩ (.int .i64 a)).setCell ⟨g, 3, none⟩ (.int .i64 b)).setCell ⟨g, 0, none⟩ (.int .i64 c)).setCell ⟨g, 1, none⟩ (.int .i64 d)) g c d a b := by
  obtain ⟨c0, c1, c2, c3, z⟩ := t
  exact ⟨st_other (st_same (st_other (st_other c0 (by simp)) (by simp))) (by simp), st_same (st_other (st_other (st_other c1 (by simp)) (by simp)) (by simp)), st_other (st_other (st_other (st_same c2) (by simp)) (by simp)) (by simp), st_other (st_other (st_same (st_other c3 (by simp))) (by simp)) (by simp), fun i => st_fz (st_fz (st_fz (st_fz (z i))))⟩
theorem Below.four {w : World} {B g : Nat} (hb : B ≤ g) {a0 a1 a2 a3 : Nat} (u0 u1 u2 u3 : Value) : Below B w ((((w.setCell ⟨g, a0, none⟩ u0).setCell ⟨g, a1, none⟩ u1).setCell ⟨g, a2, none⟩ u2).setCell ⟨g, a3, none⟩ u3) :=
  ((((Below.refl B w).setCell hb _).setCell hb _).setCell hb _).setCell hb _
set_option maxRecDepth 100000 in
set_option maxHeartbeats 4000000 in
theorem isort_ok (w : World) (B g cap : Nat) (hB : B ≤ g) (t : Tw w g 1 6 2 4) :
    Calls Try.prog 40 #[.slice (some ⟨g, 0, none⟩) 2 cap, .int .i64 0, .int .i64 2, .func (.func 35) #[] #[]] w fun e w' => e = .returned (.tuple #[]) ∧ Tw w' g 1 6 2 4 ∧ Below B w w' := by
  have hen : ∀ args w, (callFunc 35 args).run Try.prog w = .ok (.enter 35 args) w := enters_of Try.func35 (by kernel_rfl) rfl
  have HC := Lib.hid (fun w => tcmp_any 2 4 1 6 w)
  rw [show cmI 2 1 = 1 by decide] at HC
  have hw0 : IntKind.i64.wrap 0 = 0 := by decide
  have HT := Lib.hid t
  have HBg := Lib.hid hB
  clear t hB
  go_enter Try.func40, Try.ntmps40
  go_wp2
  go_loopg [8] 1 (fun gh i wr => (gh = 1 ∧ i = .int .i64 1 ∧ Tw wr g 1 6 2 4 ∧ Below B w wr) ∨ (gh = 0 ∧ i = .int .i64 2 ∧ Tw wr g 1 6 2 4 ∧ Below B w wr))
  case atStart => exact .inl ⟨rfl, rfl, HT.out, Below.refl _ _⟩
  case round =>
    rcases hrel with ⟨rfl, rfl, ht, hb⟩ | ⟨rfl, rfl, ht, hb⟩
    case inr =>
      have HTr := Lib.hid ht
      have HB := Lib.hid hb
      clear ht hb
      go_wp2
      go_end0
      exact ⟨rfl, HTr.out, HB.out⟩
    case inl =>
      have HTo := Lib.hid ht
      have HBo := Lib.hid hb
      clear ht hb
      obtain ⟨wO, hwO⟩ : ∃ wO, wO = wr := ⟨_, rfl⟩
      subst hwO
      go_wp2
      go_loopg [9] 0 (fun gh j wr => gh = 0 ∧ j = .int .i64 1 ∧ Tw wr g 1 6 2 4 ∧ Below B w wr)
      case atStart => exact ⟨rfl, rfl, HTo.out, HBo.out⟩
      case round =>
        obtain ⟨rfl, rfl, ht, hb⟩ := hrel
        have HTr := Lib.hid ht
        have HB := Lib.hid hb
        clear ht hb HTo HBo
        obtain ⟨c0, c1, c2, c3, -⟩ := HTr.out
        go_wp2_with fail
        go_region_held3 (fun w' => w'.cell? ⟨g, 0, none⟩ = some (.int .i64 1) ∧ w'.cell? ⟨g, 1, none⟩ = some (.int .i64 6) ∧ w'.cell? ⟨g, 2, none⟩ = some (.int .i64 2) ∧ w'.cell? ⟨g, 3, none⟩ = some (.int .i64 4) ∧ Below wr.heap.size wr w')
          (first | exact ⟨c0, c1, c2, c3, (Below.refl _ _).drew⟩ | assumption | go_keep | (go_split_ands; exact ⟨keep_cell hbc (by assumption), keep_cell hbc (by assumption), keep_cell hbc (by assumption), keep_cell hbc (by assumption), Below.call (by assumption) hbc⟩))
          (first | (go_at_call 35; ((with_reducible refine (HC.out _).mono ?_); rintro e w4 ⟨rfl, hbc⟩)))
        rename_i hHeld
        obtain ⟨-, -, -, -, hb4⟩ := hHeld
        have HB4 := Lib.hid (HB.out.trans (hb4.mono (Nat.le_trans HBg.out (Nat.le_of_lt HTr.out.lt))))
        have HT4 := Lib.hid (HTr.out.then hb4)
        clear hb4 hbc c0 c1 c2 c3
        go_wp2
        go_roundg 0
        case measure => omega
        case rel => exact .inr ⟨rfl, rfl, HT4.out, HB4.out⟩
set_option maxRecDepth 100000 in
set_option maxHeartbeats 4000000 in
theorem isort_sw (w : World) (B g cap : Nat) (hB : B ≤ g) (t : Tw w g 2 4 1 6) :
    Calls Try.prog 40 #[.slice (some ⟨g, 0, none⟩) 2 cap, .int .i64 0, .int .i64 2, .func (.func 35) #[] #[]] w fun e w' => e = .returned (.tuple #[]) ∧ Tw w' g 1 6 2 4 ∧ Below B w w' := by
  have hen : ∀ args w, (callFunc 35 args).run Try.prog w = .ok (.enter 35 args) w := enters_of Try.func35 (by kernel_rfl) rfl
  have HC := Lib.hid (fun w => tcmp_any 1 6 2 4 w)
  rw [show cmI 1 2 = -1 by decide] at HC
  have hw0 : IntKind.i64.wrap 0 = 0 := by decide
  have HT := Lib.hid t
  have HBg := Lib.hid hB
  clear t hB
  go_enter Try.func40, Try.ntmps40
  go_wp2
  go_loopg [8] 1 (fun gh i wr => (gh = 1 ∧ i = .int .i64 1 ∧ Tw wr g 2 4 1 6 ∧ Below B w wr) ∨ (gh = 0 ∧ i = .int .i64 2 ∧ Tw wr g 1 6 2 4 ∧ Below B w wr))
  case atStart => exact .inl ⟨rfl, rfl, HT.out, Below.refl _ _⟩
  case round =>
    rcases hrel with ⟨rfl, rfl, ht, hb⟩ | ⟨rfl, rfl, ht, hb⟩
    case inr =>
      have HTr := Lib.hid ht
      have HB := Lib.hid hb
      clear ht hb
      go_wp2
      go_end0
      exact ⟨rfl, HTr.out, HB.out⟩
    case inl =>
      have HTo := Lib.hid ht
      have HBo := Lib.hid hb
      clear ht hb
      obtain ⟨wO, hwO⟩ : ∃ wO, wO = wr := ⟨_, rfl⟩
      subst hwO
      go_wp2
      go_loopg [9] 1 (fun gh j wr => (gh = 1 ∧ j = .int .i64 1 ∧ Tw wr g 2 4 1 6 ∧ Below B w wr) ∨ (gh = 0 ∧ j = .int .i64 0 ∧ Tw wr g 1 6 2 4 ∧ Below B w wr))
      case atStart => exact .inl ⟨rfl, rfl, HTo.out, HBo.out⟩
      case round =>
        rcases hrel with ⟨rfl, rfl, ht, hb⟩ | ⟨rfl, rfl, ht, hb⟩
        case inr =>
          have HTr := Lib.hid ht
          have HB := Lib.hid hb
          clear ht hb HTo HBo
          obtain ⟨c0, c1, c2, c3, -⟩ := HTr.out
          go_wp2_with fail
          go_quiet (fail)
          go_wp2
          go_roundg 0
          case measure => omega
          case rel => exact .inr ⟨rfl, rfl, HTr.out.drewN _, below_drewN HB.out _⟩
        case inl =>
          have HTr := Lib.hid ht
          have HB := Lib.hid hb
          clear ht hb HTo HBo
          obtain ⟨c0, c1, c2, c3, -⟩ := HTr.out
          go_wp2_with fail
          go_region_held3 (fun w' => w'.cell? ⟨g, 0, none⟩ = some (.int .i64 2) ∧ w'.cell? ⟨g, 1, none⟩ = some (.int .i64 4) ∧ w'.cell? ⟨g, 2, none⟩ = some (.int .i64 1) ∧ w'.cell? ⟨g, 3, none⟩ = some (.int .i64 6) ∧ Below wr.heap.size wr w')
            (first | exact ⟨c0, c1, c2, c3, (Below.refl _ _).drew⟩ | assumption | go_keep | (go_split_ands; exact ⟨keep_cell hbc (by assumption), keep_cell hbc (by assumption), keep_cell hbc (by assumption), keep_cell hbc (by assumption), Below.call (by assumption) hbc⟩))
            (first | (go_at_call 35; ((with_reducible refine (HC.out _).mono ?_); rintro e w4 ⟨rfl, hbc⟩)))
          rename_i hHeld
          obtain ⟨-, -, -, -, hb4⟩ := hHeld
          have HB4 := Lib.hid (HB.out.trans (hb4.mono (Nat.le_trans HBg.out (Nat.le_of_lt HTr.out.lt))))
          have HT4 := Lib.hid (HTr.out.then hb4)
          clear hb4 hbc c0 c1 c2 c3
          obtain ⟨c0, c1, c2, c3, z⟩ := HT4.out
          have z0 := z 0
          have z1 := z 1
          have z2 := z 2
          have z3 := z 3
          have HSW := Lib.hid (show Tw ((((w4.setCell ⟨g, 2, none⟩ (.int .i64 2)).setCell ⟨g, 3, none⟩ (.int .i64 4)).setCell ⟨g, 0, none⟩ (.int .i64 1)).setCell ⟨g, 1, none⟩ (.int .i64 6)).drew g 1 6 2 4 from (HT4.out.swap).drewN 1)
          have HBW := Lib.hid (show Below B w ((((w4.setCell ⟨g, 2, none⟩ (.int .i64 2)).setCell ⟨g, 3, none⟩ (.int .i64 4)).setCell ⟨g, 0, none⟩ (.int .i64 1)).setCell ⟨g, 1, none⟩ (.int .i64 6)).drew from ((((HB4.out.setCell (show B ≤ (⟨g, 2, none⟩ : Addr).block from HBg.out) _).setCell (show B ≤ (⟨g, 3, none⟩ : Addr).block from HBg.out) _).setCell (show B ≤ (⟨g, 0, none⟩ : Addr).block from HBg.out) _).setCell (show B ≤ (⟨g, 1, none⟩ : Addr).block from HBg.out) _).drew)
          clear z HT4 HB4 HTr HB
          go_wp2_with fail
          go_region
          go_wp2
          go_roundg 0
          case measure => omega
          case rel => exact .inr ⟨rfl, rfl, HSW.out, HBW.out⟩
end Go.Proofs.Ytbfklpopodmalaa
