/- How many parts there are of each kind: what the reference answers. -/
import Derived.Test.YtlgpnjbhmoomfaaDL
namespace Go.Proofs.Ytlgpnjbhmoomfaa
open Go.RowKit

/-- A part as it may be. -/
def okP (p : Q4) : Prop := (p.a = 1 ∨ p.a = 2 ∨ p.a = 3) ∧ 0 ≤ p.b ∧ p.b ≤ 23 ∧ 0 ≤ p.c ∧ p.c ≤ 31 ∧ 0 ≤ p.d ∧ p.d ≤ 47 ∧ (p.a = 3 → p.c = 0 ∧ p.d = 0)
theorem unit_okP (u : Q4) (hu : okU u) (hl : u.a = 3 → u.c = 1 ∧ u.d = 1) : ∀ p ∈ unitParts u, okP p := by
  obtain ⟨o1, o2, o3, o4, o5, o6, o7⟩ := okU_pos hu
  obtain ⟨s1, s2, s3, s4⟩ := size_of hu.2.2.2
  intro p hp
  unfold unitParts at hp
  obtain ⟨i, hi, rfl⟩ := List.mem_map.1 hp
  have hi := List.mem_range.1 hi
  have a1 : i / u.d.toNat < u.c.toNat := (Nat.div_lt_iff_lt_mul (by omega)).2 hi
  have a2 : i % u.d.toNat < u.d.toNat := Nat.mod_lt _ (by omega)
  unfold unitF
  generalize i / u.d.toNat = r at *
  generalize i % u.d.toNat = c at *
  refine ⟨hu.1, hu.2.1, hu.2.2.1, show (0 : Int) ≤ (r : Int) by omega, show (r : Int) ≤ 31 by omega, show (0 : Int) ≤ (c : Int) by omega, show (c : Int) ≤ 47 by omega, fun h => ?_⟩
  obtain ⟨h1, h2⟩ := hl h
  exact ⟨show (r : Int) = 0 by omega, show (c : Int) = 0 by omega⟩
theorem units_lane (d : Dk) : ∀ u ∈ unitsL d, u.a = 3 → u.c = 1 ∧ u.d = 1 := by
  intro u hu h
  unfold unitsL at hu
  rcases List.mem_append.1 hu with hu | hu
  · rcases List.mem_append.1 hu with hu | hu
    · obtain ⟨i, hi, rfl⟩ := List.mem_map.1 hu
      exact absurd h (show ¬ (1 : Int) = 3 by decide)
    · obtain ⟨i, hi, rfl⟩ := List.mem_map.1 hu
      exact absurd h (show ¬ (2 : Int) = 3 by decide)
  · obtain ⟨i, hi, rfl⟩ := List.mem_map.1 hu
    exact ⟨rfl, rfl⟩
theorem parts_okP (d : Dk) : ∀ p ∈ partsK d, okP p := by
  intro p hp
  unfold partsK at hp
  by_cases hz : dchk d = 0
  · rw [if_pos hz] at hp
    unfold partsL partsU at hp
    obtain ⟨u, hu, hp⟩ := List.mem_flatMap.1 hp
    exact unit_okP u (units_ok d (dchk_ok d hz) u hu) (units_lane d u hu) p hp
  · rw [if_neg hz] at hp
    simp at hp
theorem parts_len (d : Dk) : (partsK d).length ≤ 49152 := by
  unfold partsK
  by_cases hz : dchk d = 0
  · rw [if_pos hz]
    have h := partsU_len _ (units_ok d (dchk_ok d hz))
    have h2 := units_len d (dchk_ok d hz)
    unfold partsL
    omega
  · rw [if_neg hz]; simp
theorem cntK_nil (k : Int) : cntK k [] = 0 := rfl
theorem cnt_U (k : Int) (f : Nat → Q4) (n : Nat) (j : Int) (hj : ∀ i, (f i).a = j) : cntK k (partsU ((List.range n).map f)) = if j = k then (((List.range n).map fun i => (unitN (f i) : Int)).sum) else 0 := by
  induction n with
  | zero => simp [partsU, cntK_nil]
  | succ n ih =>
    rw [map_snoc, partsU_snoc, cnt_append, ih, cnt_unit, hj n, map_snoc, List.sum_append]
    by_cases h : j = k
    · rw [if_pos h, if_pos h, if_pos h]; simp
    · rw [if_neg h, if_neg h, if_neg h]; rfl
theorem sum_plates (l : List Pl) (h : ∀ i, i < l.length → okU (plateU l i)) : ∀ n, n ≤ l.length → ((List.range n).map fun i => (unitN (plateU l i) : Int)).sum = wellsV (l.take n) := by
  intro n
  induction n with
  | zero => intro _; rfl
  | succ n ih =>
    intro hn
    rw [map_snoc, List.sum_append, ih (by omega), wells_snoc l n (by omega)]
    have := (okU_pos (h n (by omega))).2.2.2.2.1
    have e : (plateU l n).c * (plateU l n).d = (l.getD n KP.dflt).rows * (l.getD n KP.dflt).cols := rfl
    rw [e] at this
    rw [this]
    simp
theorem sum_racks (l : List Rk) (h : ∀ i, i < l.length → okU (rackU l i)) : ∀ n, n ≤ l.length → ((List.range n).map fun i => (unitN (rackU l i) : Int)).sum = tipsV (l.take n) := by
  intro n
  induction n with
  | zero => intro _; rfl
  | succ n ih =>
    intro hn
    rw [map_snoc, List.sum_append, ih (by omega), tips_snoc l n (by omega)]
    have := (okU_pos (h n (by omega))).2.2.2.2.1
    have e : (rackU l n).c * (rackU l n).d = (l.getD n KR.dflt).rows * (l.getD n KR.dflt).cols := rfl
    rw [e] at this
    rw [this]
    simp
theorem sum_lanes (n : Nat) : ((List.range n).map fun i => (unitN (laneU i) : Int)).sum = n := by
  induction n with
  | zero => rfl
  | succ n ih =>
    rw [map_snoc, List.sum_append, ih]
    simp [unitN, laneU]
theorem cnt_V (d : Dk) : cntV d = (cntK 1 (partsK d), cntK 2 (partsK d), cntK 3 (partsK d)) := by
  unfold cntV partsK
  by_cases hz : dchk d = 0
  · have hok := dchk_ok d hz
    rw [if_pos hz, if_pos hz]
    have e : partsL d = partsU ((List.range d.pl.length).map (plateU d.pl)) ++ partsU ((List.range d.rl.length).map (rackU d.rl)) ++ partsU ((List.range (d.bl.length - 1)).map laneU) := by
      unfold partsL partsU unitsL
      rw [List.flatMap_append, List.flatMap_append]
    have c := fun k => show cntK k (partsL d) = _ from by rw [e, cnt_append, cnt_append, cnt_U k (plateU d.pl) _ 1 (fun _ => rfl), cnt_U k (rackU d.rl) _ 2 (fun _ => rfl), cnt_U k laneU _ 3 (fun _ => rfl), sum_plates d.pl (fun i hi => plateU_ok d hok i hi) _ (Nat.le_refl _), sum_racks d.rl (fun i hi => rackU_ok d hok i hi) _ (Nat.le_refl _), sum_lanes, List.take_length, List.take_length]
    rw [c 1, c 2, c 3]
    have h2 := hok.rise.two
    simp
    omega
  · rw [if_neg hz, if_neg hz]
    rfl
theorem cnt_snoc (k : Int) (l : List Q4) (i : Nat) (h : i < l.length) : cntK k (l.take (i + 1)) = cntK k (l.take i) + (if (l.getD i ⟨0, 0, 0, 0⟩).a = k then 1 else 0) := by
  rw [take_snoc l i ⟨0, 0, 0, 0⟩ h, cnt_append]
  congr 1
  unfold cntK
  generalize l.getD i ⟨0, 0, 0, 0⟩ = q
  by_cases hk : q.a = k
  · rw [if_pos hk]; simp [hk]
  · rw [if_neg hk]; simp [hk]
theorem cnt_bd (k : Int) (l : List Q4) (i : Nat) : 0 ≤ cntK k (l.take i) ∧ cntK k (l.take i) ≤ l.length := by
  unfold cntK
  have h1 := List.length_filter_le (fun p : Q4 => p.a == k) (l.take i)
  rw [List.length_take] at h1
  omega
end Go.Proofs.Ytlgpnjbhmoomfaa
