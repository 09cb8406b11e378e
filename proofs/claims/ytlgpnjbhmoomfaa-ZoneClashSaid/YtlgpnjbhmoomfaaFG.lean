/- The lanes that are touched: what the program answers. -/
import Derived.Test.YtlgpnjbhmoomfaaFF
import Derived.Deep.LoopGhost
namespace Go.Proofs.Ytlgpnjbhmoomfaa
open Go.RowKit

def tLo (l : List Nat) (a b : Nat) : Nat := if outB l a b = true then 0 else loV l a 0
def tHi (l : List Nat) (a b : Nat) : Nat := if outB l a b = true then 0 else hiV l b (l.length - 2)
def tEr (l : List Nat) (a b : Nat) : Int := if outB l a b = true then 71 else 0
set_option maxHeartbeats 4000000 in
theorem touched_any (b off cap n : Nat) (xs : List Nat) (hn : xs.length = n + 2) (hm : n ≤ 23) (w : World) (hb : b < w.heap.size) (hcell : ∀ i, i < xs.length → w.cell? ⟨b, off + i, none⟩ = some (.float .f64 (xs.getD i 0)))
    (p q : Nat) :
    Calls Try.prog 88 #[.slice (some ⟨b, off, none⟩) xs.length cap, .float .f64 p, .float .f64 q] w fun e w' => e = .returned (.tuple #[.agg #[.int .i64 (tLo xs p q), .int .i64 (tHi xs p q)], .int .i64 (tEr xs p q)]) ∧ Below w.heap.size w w' := by
  have olt : ∀ a b, (FloatKind.f64.format.order a b == some .lt) = ltb a b := fun _ _ => rfl
  have ogt : ∀ a b, (FloatKind.f64.format.order a b == some .gt) = gtb a b := fun _ _ => rfl
  have oge : ∀ a b, (gtb a b || FloatKind.f64.format.order a b == some .eq) = geb a b := fun _ _ => rfl
  have HC := Lib.hid hcell
  have c0 := hcell 0 (by omega)
  have c1 := hcell (n + 1) (by omega)
  rw [Nat.add_zero] at c0
  have HO := Lib.hid (show outB xs p q = (gtb p (xs.getD (n + 1) 0) || ltb q (xs.getD 0 0)) by unfold outB; rw [hn]; rfl)
  have HN := Lib.hid (hi_next xs q)
  have HE := Lib.hid (hi_end xs q)
  have HLN := Lib.hid (lo_next xs p)
  have HLE := Lib.hid (lo_end xs p)
  have HT2 := Lib.hid (show tHi xs p q = if outB xs p q = true then 0 else hiV xs q n by unfold tHi; rw [hn]; rfl)
  rw [hn] at *
  clear hn
  clear hcell
  rcases Bool.eq_false_or_eq_true (gtb p (xs.getD (n + 1) 0)) with g1 | g1
  · have ho := HO.out
    rw [g1, Bool.true_or] at ho
    have T1 : tLo xs p q = 0 := by unfold tLo; rw [if_pos ho]
    have T2 : tHi xs p q = 0 := by unfold tHi; rw [if_pos ho]
    have T3 : tEr xs p q = 71 := by unfold tEr; rw [if_pos ho]
    rw [T1, T2, T3]
    clear ho T1 T2 T3
    generalize xs.getD (n + 1) 0 = f1 at *
    generalize xs.getD 0 0 = f0 at *
    go_enter Try.func88, Try.ntmps88
    go_wp2
    exact bodyPost_ret (v := .tuple #[.agg #[.int .i64 0, .int .i64 0], .int .i64 71]) (by simp [results, Try.results88, go_sem]) rfl ⟨rfl, Below.al (Below.refl _ _) _⟩
  · rcases Bool.eq_false_or_eq_true (ltb q (xs.getD 0 0)) with g2 | g2
    · have ho := HO.out
      rw [g1, g2, Bool.false_or] at ho
      have T1 : tLo xs p q = 0 := by unfold tLo; rw [if_pos ho]
      have T2 : tHi xs p q = 0 := by unfold tHi; rw [if_pos ho]
      have T3 : tEr xs p q = 71 := by unfold tEr; rw [if_pos ho]
      rw [T1, T2, T3]
      clear ho T1 T2 T3
      generalize xs.getD (n + 1) 0 = f1 at *
      generalize xs.getD 0 0 = f0 at *
      go_enter Try.func88, Try.ntmps88
      go_wp2
      exact bodyPost_ret (v := .tuple #[.agg #[.int .i64 0, .int .i64 0], .int .i64 71]) (by simp [results, Try.results88, go_sem]) rfl ⟨rfl, Below.al (Below.refl _ _) _⟩
    · have ho := HO.out
      rw [g1, g2, Bool.false_or] at ho
      have T1 : tLo xs p q = loV xs p 0 := by unfold tLo; rw [if_neg (by rw [ho]; simp)]
      have T2 : tHi xs p q = hiV xs q n := by rw [HT2.out, if_neg (by rw [ho]; simp)]
      have T3 : tEr xs p q = 0 := by unfold tEr; rw [if_neg (by rw [ho]; simp)]
      rw [T1, T2, T3]
      have G2 := Lib.hid g2
      clear ho T1 T2 T3 HO
      generalize xs.getD (n + 1) 0 = f1 at c1 g1
      generalize xs.getD 0 0 = f0 at c0 g2
      go_enter Try.func88, Try.ntmps88
      go_wp2
      clear c0 c1 g1 g2
      go_loopg [46] n (fun gk _ wr => ∃ k : Nat, gk + k = n ∧ loV xs p k = loV xs p 0 ∧ Below w.heap.size w wr ∧
        wr.cell? ⟨w.heap.size, 0, none⟩ = some (.int .i64 0) ∧ wr.cell? ⟨w.heap.size, 1, none⟩ = some (.int .i64 0) ∧ wr.cell? ⟨w.heap.size + 1, 0, none⟩ = some (.int .i64 k) ∧ wr.cell? ⟨w.heap.size + 1, 1, none⟩ = some (.int .i64 n) ∧
        wr.frozen? ⟨w.heap.size, 0, none⟩ = false ∧ wr.frozen? ⟨w.heap.size, 1, none⟩ = false ∧ wr.frozen? ⟨w.heap.size + 1, 0, none⟩ = false ∧ wr.frozen? ⟨w.heap.size + 1, 1, none⟩ = false)
      case atStart =>
        refine ⟨0, rfl, rfl, ?_, by simp, by simp, by simp, by simp, by simp, by simp, by simp, by simp⟩
        (repeat (first | exact Below.refl _ _ | (with_reducible refine Below.st ?_ (by simp <;> omega)) | (with_reducible refine Below.al ?_ _)))
      case round =>
        obtain ⟨k, hk, hgo, hbl, r0, r1, s0, s1, z0, z1, z2, z3⟩ := hrel
        have HG := Lib.hid hgo
        have HB := Lib.hid hbl
        clear hgo
        obtain ⟨w1, hw1⟩ : ∃ w1, w1 = wr := ⟨_, rfl⟩
        subst hw1
        by_cases hkn : k < n
        · have hcl := (hbl.cell (p := ⟨b, off + (k + 1), none⟩) hb).trans (HC.out (k + 1) (by omega))
          have HNX := Lib.hid (HLN.out k (by omega))
          have HEX := Lib.hid (fun h => HLE.out k (.inr h))
          clear hbl
          generalize xs.getD (k + 1) 0 = f at *
          rcases Bool.eq_false_or_eq_true (geb p f) with g | g
          · have HR := Lib.hid (HNX.out g)
            go_wp2
            go_roundg (gk - 1)
            case measure => omega
            case rel =>
              refine ⟨k + 1, by omega, by rw [HR.out, HG.out], ?_, st_other r0 (by simp), st_other r1 (by simp), (st_same s0).trans (congrArg some (num_i (by omega))), st_other s1 (by simp), st_fz z0, st_fz z1, st_fz z2, st_fz z3⟩
              exact Below.st HB.out (by simp)
          · have HR := Lib.hid (HEX.out g)
            go_wp2
            clear oge ogt
            go_loopg [58] n (fun gk _ wr => ∃ j : Nat, gk = j ∧ j ≤ n ∧ hiV xs q j = hiV xs q n ∧ Below w.heap.size w wr ∧
              wr.cell? ⟨w.heap.size, 0, none⟩ = some (.int .i64 0) ∧ wr.cell? ⟨w.heap.size, 1, none⟩ = some (.int .i64 0) ∧ wr.cell? ⟨w.heap.size + 1, 0, none⟩ = some (.int .i64 k) ∧ wr.cell? ⟨w.heap.size + 1, 1, none⟩ = some (.int .i64 j) ∧
              wr.frozen? ⟨w.heap.size, 0, none⟩ = false ∧ wr.frozen? ⟨w.heap.size, 1, none⟩ = false ∧ wr.frozen? ⟨w.heap.size + 1, 0, none⟩ = false ∧ wr.frozen? ⟨w.heap.size + 1, 1, none⟩ = false)
            case atStart => exact ⟨n, rfl, Nat.le_refl _, rfl, HB.out, r0, r1, s0, s1, z0, z1, z2, z3⟩
            case round =>
              clear r0 r1 s0 s1 z0 z1 z2 z3
              obtain ⟨j, rfl, hj, hgo2, hbl, r0, r1, s0, s1, z0, z1, z2, z3⟩ := hrel
              have HG2 := Lib.hid hgo2
              have hcl := (hbl.cell (p := ⟨b, off + gk, none⟩) hb).trans (HC.out gk (by omega))
              have HB2 := Lib.hid hbl
              have HNX2 := Lib.hid (fun h => HN.out gk h G2.out)
              have HEX2 := Lib.hid (HE.out gk)
              clear hbl hgo2
              generalize xs.getD gk 0 = f2 at *
              rcases Bool.eq_false_or_eq_true (ltb q f2) with g2 | g2
              · obtain ⟨hp, hh⟩ := HNX2.out g2
                have HR2 := Lib.hid hh
                clear hh
                go_wp2
                go_roundg (gk - 1)
                case measure => omega
                case rel =>
                  refine ⟨gk - 1, rfl, by omega, by rw [HR2.out, HG2.out], ?_, st_other r0 (by simp), st_other r1 (by simp), st_other s0 (by simp), (st_same s1).trans (congrArg some (num_i (by omega))), st_fz z0, st_fz z1, st_fz z2, st_fz z3⟩
                  exact Below.st HB2.out (by simp)
              · have HR2 := Lib.hid (HEX2.out g2)
                go_wp2
                have e1 : loV xs p 0 = k := by rw [← HG.out, HR.out]
                have e2 : hiV xs q n = gk := by rw [← HG2.out, HR2.out]
                rw [e1, e2]
                have q0 : ((wr.setCell ⟨w.heap.size, 0, none⟩ (.int .i64 k)).setCell ⟨w.heap.size, 1, none⟩ (.int .i64 gk)).cell? ⟨w.heap.size, 0, none⟩ = some (.int .i64 k) := st_other (st_same r0) (by simp)
                have q1 : ((wr.setCell ⟨w.heap.size, 0, none⟩ (.int .i64 k)).setCell ⟨w.heap.size, 1, none⟩ (.int .i64 gk)).cell? ⟨w.heap.size, 1, none⟩ = some (.int .i64 gk) := st_same (st_other r1 (by simp))
                exact bodyPost_ret (v := .tuple #[.agg #[.int .i64 k, .int .i64 gk], .int .i64 0]) (by simp [results, Try.results88, go_sem, q0, q1]) rfl ⟨rfl, Below.st (Below.st HB2.out (by simp)) (by simp)⟩
        · obtain rfl : k = n := by omega
          clear hbl
          have HR := Lib.hid (HLE.out k (.inl (by omega)))
          go_wp2
          clear oge ogt
          go_loopg [58] k (fun gk _ wr => ∃ j : Nat, gk = j ∧ j ≤ k ∧ hiV xs q j = hiV xs q k ∧ Below w.heap.size w wr ∧
            wr.cell? ⟨w.heap.size, 0, none⟩ = some (.int .i64 0) ∧ wr.cell? ⟨w.heap.size, 1, none⟩ = some (.int .i64 0) ∧ wr.cell? ⟨w.heap.size + 1, 0, none⟩ = some (.int .i64 k) ∧ wr.cell? ⟨w.heap.size + 1, 1, none⟩ = some (.int .i64 j) ∧
            wr.frozen? ⟨w.heap.size, 0, none⟩ = false ∧ wr.frozen? ⟨w.heap.size, 1, none⟩ = false ∧ wr.frozen? ⟨w.heap.size + 1, 0, none⟩ = false ∧ wr.frozen? ⟨w.heap.size + 1, 1, none⟩ = false)
          case atStart => exact ⟨k, rfl, Nat.le_refl _, rfl, HB.out, r0, r1, s0, s1, z0, z1, z2, z3⟩
          case round =>
            clear r0 r1 s0 s1 z0 z1 z2 z3
            obtain ⟨j, rfl, hj, hgo2, hbl, r0, r1, s0, s1, z0, z1, z2, z3⟩ := hrel
            have HG2 := Lib.hid hgo2
            have hcl := (hbl.cell (p := ⟨b, off + gk, none⟩) hb).trans (HC.out gk (by omega))
            have HB2 := Lib.hid hbl
            have HNX2 := Lib.hid (fun h => HN.out gk h G2.out)
            have HEX2 := Lib.hid (HE.out gk)
            clear hbl hgo2
            generalize xs.getD gk 0 = f2 at *
            rcases Bool.eq_false_or_eq_true (ltb q f2) with g2 | g2
            · obtain ⟨hp, hh⟩ := HNX2.out g2
              have HR2 := Lib.hid hh
              clear hh
              go_wp2
              go_roundg (gk - 1)
              case measure => omega
              case rel =>
                refine ⟨gk - 1, rfl, by omega, by rw [HR2.out, HG2.out], ?_, st_other r0 (by simp), st_other r1 (by simp), st_other s0 (by simp), (st_same s1).trans (congrArg some (num_i (by omega))), st_fz z0, st_fz z1, st_fz z2, st_fz z3⟩
                exact Below.st HB2.out (by simp)
            · have HR2 := Lib.hid (HEX2.out g2)
              go_wp2
              have e1 : loV xs p 0 = k := by rw [← HG.out, HR.out]
              have e2 : hiV xs q k = gk := by rw [← HG2.out, HR2.out]
              rw [e1, e2]
              have q0 : ((wr.setCell ⟨w.heap.size, 0, none⟩ (.int .i64 k)).setCell ⟨w.heap.size, 1, none⟩ (.int .i64 gk)).cell? ⟨w.heap.size, 0, none⟩ = some (.int .i64 k) := st_other (st_same r0) (by simp)
              have q1 : ((wr.setCell ⟨w.heap.size, 0, none⟩ (.int .i64 k)).setCell ⟨w.heap.size, 1, none⟩ (.int .i64 gk)).cell? ⟨w.heap.size, 1, none⟩ = some (.int .i64 gk) := st_same (st_other r1 (by simp))
              exact bodyPost_ret (v := .tuple #[.agg #[.int .i64 k, .int .i64 gk], .int .i64 0]) (by simp [results, Try.results88, go_sem, q0, q1]) rfl ⟨rfl, Below.st (Below.st HB2.out (by simp)) (by simp)⟩
end Go.Proofs.Ytlgpnjbhmoomfaa
