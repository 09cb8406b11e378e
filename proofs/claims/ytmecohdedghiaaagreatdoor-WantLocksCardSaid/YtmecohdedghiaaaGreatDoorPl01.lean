/- The lanes that a tool touches: the reference's walk. -/
import Derived.Test.YtmecohdedghiaaaGreatDoorPl00
import Derived.Deep.LoopGhost
import Derived.RegionTactic
import Derived.ChangeAlike
namespace Go.Proofs.YtmecohdedghiaaaGreatDoor
/-- Borders that rise. -/
structure Rise (l : List Nat) : Prop where
 two : 2 ≤ l.length
 most : l.length ≤ 25
 num : ∀ i, i < l.length → ¬ nan (l.getD i 0)
 lt : ∀ i j, i < j → j < l.length → vf (l.getD i 0) < vf (l.getD j 0)
theorem Rise.le {l : List Nat} (h : Rise l) (i j : Nat) (hij : i ≤ j) (hj : j < l.length) : vf (l.getD i 0) ≤ vf (l.getD j 0) := by
 rcases Nat.lt_or_eq_of_le hij with h1 | h1
 ·exact Int.le_of_lt (h.lt i j h1 hj)
 ·rw [h1]; omega
theorem chk_all (l : List Nat) : ∀ n i, n = l.length - i → chkAt l i = 0 → ∀ j, i ≤ j → j < l.length → ¬ nan (l.getD j 0) ∧ (0 < j → leb (l.getD j 0) (l.getD (j - 1) 0) = false) := by
 intro n
 induction n with
 | zero => intro i hn _ j h1 h2; omega
 | succ n ih =>
  intro i hn hc j h1 h2
  rw [chkAt, if_pos (by omega)] at hc
  by_cases hnan : nanb (l.getD i 0) = true
  ·rw [if_pos hnan] at hc; omega
  rw [if_neg hnan] at hc
  by_cases hb : 0 < i ∧ leb (l.getD i 0) (l.getD (i - 1) 0) = true
  ·rw [if_pos hb] at hc; omega
  rw [if_neg hb] at hc
  by_cases hij : i = j
  ·subst hij
   refine ⟨by unfold nanb at hnan; simpa using hnan, fun h0 => ?_⟩
   rw [← Bool.not_eq_true]
   exact fun hh => hb ⟨h0, hh⟩
  ·exact ih (i + 1) (by omega) hc j (by omega) h2
theorem rise_of (l : List Nat) (h : chkE l = 0) : Rise l := by
 unfold chkE at h
 by_cases h1 : l.length < 2
 ·rw [if_pos h1] at h; omega
 rw [if_neg h1] at h
 by_cases h2 : 25 < l.length
 ·rw [if_pos h2] at h; omega
 rw [if_neg h2] at h
 have ha := chk_all l _ 0 rfl h
 have hnum : ∀ i, i < l.length → ¬ nan (l.getD i 0) := fun i hi => (ha i (Nat.zero_le _) hi).1
 have step : ∀ i, i + 1 < l.length → vf (l.getD i 0) < vf (l.getD (i + 1) 0) := fun i hi => by
  have h3 := (ha (i + 1) (Nat.zero_le _) hi).2 (by omega)
  rw [Nat.add_sub_cancel] at h3
  apply Int.lt_of_not_ge
  intro hh
  have := (leb_iff (l.getD (i + 1) 0) (l.getD i 0)).2 ⟨hnum _ hi, hnum _ (by omega), hh⟩
  rw [this] at h3
  cases h3
 refine ⟨by omega, by omega, hnum, fun i j hij => ?_⟩
 induction j with
 | zero => omega
 | succ j ih =>
  intro hj
  by_cases e : i = j
  ·subst e; exact step i hj
  ·exact Int.lt_trans (ih (by omega) (by omega)) (step j hj)
theorem ltb_num {a b : Nat} (ha : ¬ nan a) (hb : ¬ nan b) : ltb a b = decide (vf a < vf b) := by
 rw [Bool.eq_iff_iff, ltb_iff, decide_eq_true_eq]
 exact ⟨fun h => h.2.2, fun h => ⟨ha, hb, h⟩⟩
theorem leb_num {a b : Nat} (ha : ¬ nan a) (hb : ¬ nan b) : leb a b = decide (vf a ≤ vf b) := by
 rw [Bool.eq_iff_iff, leb_iff, decide_eq_true_eq]
 exact ⟨fun h => h.2.2, fun h => ⟨ha, hb, h⟩⟩
theorem gtb_num {a b : Nat} (ha : ¬ nan a) (hb : ¬ nan b) : gtb a b = decide (vf b < vf a) := by
 rw [Bool.eq_iff_iff, gtb_iff, decide_eq_true_eq]
 exact ⟨fun h => h.2.2, fun h => ⟨ha, hb, h⟩⟩
theorem geb_num {a b : Nat} (ha : ¬ nan a) (hb : ¬ nan b) : geb a b = decide (vf b ≤ vf a) := by
 rw [Bool.eq_iff_iff, geb_iff, decide_eq_true_eq]
 exact ⟨fun h => h.2.2, fun h => ⟨ha, hb, h⟩⟩
/-- The first lane that a lies below the upper border of; the last one that b is not below. -/
def loV (l : List Nat) (a : Nat) (k : Nat) : Nat := if k + 2 < l.length ∧ geb a (l.getD (k + 1) 0) = true then loV l a (k + 1) else k
termination_by l.length - k
def hiV (l : List Nat) (b : Nat) : Nat → Nat
 | 0 => 0
 | k + 1 => if ltb b (l.getD (k + 1) 0) = true then hiV l b k else k + 1
theorem lo_next (l : List Nat) (a k : Nat) (h : k + 2 < l.length) (hg : geb a (l.getD (k + 1) 0) = true) : loV l a (k + 1) = loV l a k := by
 rw [loV.eq_def l a k, if_pos ⟨h, hg⟩]
theorem lo_end (l : List Nat) (a k : Nat) (h : l.length ≤ k + 2 ∨ geb a (l.getD (k + 1) 0) = false) : loV l a k = k := by
 rw [loV, if_neg]
 rintro ⟨h1, h2⟩
 rcases h with h | h
 ·omega
 ·rw [h] at h2; cases h2
theorem hi_next (l : List Nat) (b k : Nat) (hg : ltb b (l.getD k 0) = true) (h0 : ltb b (l.getD 0 0) = false) : 0 < k ∧ hiV l b (k - 1) = hiV l b k := by
 cases k with
 | zero => rw [h0] at hg; cases hg
 | succ k =>
  refine ⟨by omega, ?_⟩
  rw [Nat.add_sub_cancel, hiV.eq_def l b (k + 1)]
  simp only [hg, if_true]
theorem hi_end (l : List Nat) (b k : Nat) (hg : ltb b (l.getD k 0) = false) : hiV l b k = k := by
 cases k with
 | zero => rfl
 | succ k =>
  rw [hiV, hg, if_neg (by simp)]
/-- Lies it off the rail? -/
def outB (l : List Nat) (a b : Nat) : Bool := gtb a (l.getD (l.length - 1) 0) || ltb b (l.getD 0 0)
theorem lo_spec (l : List Nat) (h : Rise l) (a : Nat) (ha : ¬ nan a) : ∀ n k, n = l.length - k → k + 2 ≤ l.length → (∀ j, j < k → vf (l.getD (j + 1) 0) ≤ vf a) →
  loV l a k + 2 ≤ l.length ∧ (∀ j, j < loV l a k → vf (l.getD (j + 1) 0) ≤ vf a) ∧ (loV l a k + 2 = l.length ∨ vf a < vf (l.getD (loV l a k + 1) 0)) := by
 intro n
 induction n with
 | zero => intro k h1 h2; omega
 | succ n ih =>
  intro k hn hk hj
  by_cases hc : k + 2 < l.length ∧ geb a (l.getD (k + 1) 0) = true
  ·rw [loV, if_pos hc]
   refine ih (k + 1) (by omega) (by omega) fun j hj2 => ?_
   by_cases e : j = k
   ·subst e
    exact ((geb_iff _ _).1 hc.2).2.2
   ·exact hj j (by omega)
  ·rw [loV, if_neg hc]
   refine ⟨hk, hj, ?_⟩
   by_cases e : k + 2 = l.length
   ·exact .inl e
   ·right
    have hg : ¬ geb a (l.getD (k + 1) 0) = true := fun hh => hc ⟨by omega, hh⟩
    rw [geb_num ha (h.num _ (by omega)), decide_eq_true_eq] at hg
    omega
theorem hi_spec (l : List Nat) (h : Rise l) (b : Nat) (hb : ¬ nan b) (h0 : vf (l.getD 0 0) ≤ vf b) : ∀ k, k < l.length →
  hiV l b k ≤ k ∧ vf (l.getD (hiV l b k) 0) ≤ vf b ∧ ∀ j, hiV l b k < j → j ≤ k → vf b < vf (l.getD j 0) := by
 intro k
 induction k with
 | zero => intro _; exact ⟨Nat.le_refl _, h0, fun j h1 h2 => by unfold hiV at h1; omega⟩
 | succ k ih =>
  intro hk
  obtain ⟨i1, i2, i3⟩ := ih (by omega)
  by_cases hc : ltb b (l.getD (k + 1) 0) = true
  ·rw [hiV, if_pos hc]
   refine ⟨by omega, i2, fun j h1 h2 => ?_⟩
   by_cases e : j = k + 1
   ·subst e
    exact ((ltb_iff _ _).1 hc).2.2
   ·exact i3 j h1 (by omega)
  ·rw [hiV, if_neg hc]
   rw [ltb_num hb (h.num _ hk), decide_eq_true_eq] at hc
   exact ⟨Nat.le_refl _, by omega, fun j h1 h2 => by omega⟩
/-- What is known of the touched lanes. -/
theorem lanes_spec (l : List Nat) (h : Rise l) (a b : Nat) (ha : ¬ nan a) (hb : ¬ nan b) (hab : vf a ≤ vf b) (ho : outB l a b = false) :
  loV l a 0 ≤ hiV l b (l.length - 2) ∧ hiV l b (l.length - 2) + 2 ≤ l.length ∧ (∀ j, j < loV l a 0 → vf (l.getD (j + 1) 0) ≤ vf a) ∧ (loV l a 0 + 2 = l.length ∨ vf a < vf (l.getD (loV l a 0 + 1) 0)) ∧
  vf (l.getD (hiV l b (l.length - 2)) 0) ≤ vf b ∧ (∀ j, hiV l b (l.length - 2) < j → j + 2 ≤ l.length → vf b < vf (l.getD j 0)) ∧ vf a ≤ vf (l.getD (l.length - 1) 0) ∧ vf (l.getD 0 0) ≤ vf b := by
 have h2 := h.two
 unfold outB at ho
 rw [Bool.or_eq_false_iff, gtb_num ha (h.num _ (by omega)), ltb_num hb (h.num _ (by omega)), decide_eq_false_iff_not, decide_eq_false_iff_not] at ho
 obtain ⟨o1, o2⟩ := ho
 obtain ⟨a1, a2, a3⟩ := lo_spec l h a ha _ 0 rfl (by omega) (fun j hj => by omega)
 obtain ⟨b1, b2, b3⟩ := hi_spec l h b hb (by omega) (l.length - 2) (by omega)
 refine ⟨?_, by omega, a2, a3, b2, fun j j1 j2 => b3 j j1 (by omega), by omega, by omega⟩
 apply Nat.le_of_not_lt
 intro hh
 have x := b3 (hiV l b (l.length - 2) + 1) (by omega) (by omega)
 have y := a2 (hiV l b (l.length - 2)) hh
 omega
/-- Is a lane touched? -/
def tchB (l : List Nat) (a b k : Nat) : Bool := (if k + 2 = l.length then leb a (l.getD (k + 1) 0) else ltb a (l.getD (k + 1) 0)) && geb b (l.getD k 0)
theorem tch_iff (l : List Nat) (h : Rise l) (a b : Nat) (ha : ¬ nan a) (hb : ¬ nan b) (hab : vf a ≤ vf b) (ho : outB l a b = false) (k : Nat) (hk : k + 2 ≤ l.length) :
  tchB l a b k = true ↔ loV l a 0 ≤ k ∧ k ≤ hiV l b (l.length - 2) := by
 obtain ⟨s1, s2, s3, s4, s5, s6, s7, s8⟩ := lanes_spec l h a b ha hb hab ho
 unfold tchB
 rw [Bool.and_eq_true, geb_num hb (h.num _ (by omega)), decide_eq_true_eq]
 constructor
 ·rintro ⟨t1, t2⟩
  constructor
  ·apply Nat.le_of_not_lt
   intro hh
   have x := s3 k hh
   rw [if_neg (by omega), ltb_num ha (h.num _ (by omega)), decide_eq_true_eq] at t1
   omega
  ·apply Nat.le_of_not_lt
   intro hh
   have x := s6 k hh hk
   omega
 ·rintro ⟨t1, t2⟩
  constructor
  ·by_cases e : k + 2 = l.length
   ·rw [if_pos e, leb_num ha (h.num _ (by omega)), decide_eq_true_eq]
    rw [show k + 1 = l.length - 1 by omega]
    exact s7
   ·rw [if_neg e, ltb_num ha (h.num _ (by omega)), decide_eq_true_eq]
    rcases s4 with s4 | s4
    ·omega
    ·have := h.le (loV l a 0 + 1) (k + 1) (by omega) (by omega)
     omega
  ·have := h.le k _ t2 (by omega)
   omega
theorem tch_out (l : List Nat) (h : Rise l) (a b : Nat) (ha : ¬ nan a) (hb : ¬ nan b) (ho : outB l a b = true) (k : Nat) (hk : k + 2 ≤ l.length) : tchB l a b k = false := by
 have h2 := h.two
 unfold outB at ho
 rw [Bool.or_eq_true, gtb_num ha (h.num _ (by omega)), ltb_num hb (h.num _ (by omega)), decide_eq_true_eq, decide_eq_true_eq] at ho
 rw [← Bool.not_eq_true]
 unfold tchB
 rw [Bool.and_eq_true, geb_num hb (h.num _ (by omega)), decide_eq_true_eq]
 rintro ⟨t1, t2⟩
 rcases ho with ho | ho
 ·have x := h.le (k + 1) (l.length - 1) (by omega) (by omega)
  by_cases e : k + 2 = l.length
  ·rw [if_pos e, leb_num ha (h.num _ (by omega)), decide_eq_true_eq] at t1
   omega
  ·rw [if_neg e, ltb_num ha (h.num _ (by omega)), decide_eq_true_eq] at t1
   omega
 ·have x := h.le 0 k (by omega) (by omega)
  omega
/-- All that are touched. -/
def tchs (l : List Nat) (a b : Nat) (k : Nat) : List Nat := (List.range k).filter (tchB l a b)
theorem tchs_out (l : List Nat) (h : Rise l) (a b : Nat) (ha : ¬ nan a) (hb : ¬ nan b) (ho : outB l a b = true) : tchs l a b (l.length - 1) = [] := by
 unfold tchs
 rw [List.filter_eq_nil_iff]
 intro k hk
 rw [List.mem_range] at hk
 rw [tch_out l h a b ha hb ho k (by omega)]
 simp
theorem tchs_in (l : List Nat) (h : Rise l) (a b : Nat) (ha : ¬ nan a) (hb : ¬ nan b) (hab : vf a ≤ vf b) (ho : outB l a b = false) :
  tchs l a b (l.length - 1) = List.range' (loV l a 0) (hiV l b (l.length - 2) - loV l a 0 + 1) := by
 obtain ⟨s1, s2, _⟩ := lanes_spec l h a b ha hb hab ho
 have hti := tch_iff l h a b ha hb hab ho
 generalize loV l a 0 = lo at *
 generalize hiV l b (l.length - 2) = hi at *
 unfold tchs
 have hs1 : ((List.range (l.length - 1)).filter (tchB l a b)).Pairwise (· < ·) := List.Pairwise.filter _ List.pairwise_lt_range
 have hs2 : (List.range' lo (hi - lo + 1)).Pairwise (· < ·) := List.pairwise_lt_range'
 refine List.Perm.eq_of_pairwise (le := (· < ·)) (fun x y _ _ h1 h2 => by omega) hs1 hs2 ?_
 refine (List.perm_ext_iff_of_nodup (hs1.imp (fun h => Nat.ne_of_lt h)) (hs2.imp (fun h => Nat.ne_of_lt h))).2 fun k => ?_
 rw [List.mem_filter, List.mem_range, List.mem_range'_1]
 constructor
 ·rintro ⟨h1, h2⟩
  have := (hti k (by omega)).1 h2
  omega
 ·rintro ⟨h1, h2⟩
  exact ⟨by omega, (hti k (by omega)).2 (by omega)⟩
/-- The reference's lane of a place. -/
def atV (l : List Nat) (x : Nat) : Nat → Nat
 | 0 => 0
 | k + 1 => if leb (l.getD k 0) x = true then k else atV l x k
end Go.Proofs.YtmecohdedghiaaaGreatDoor
namespace Go.Proofs.YtmecohdedghiaaaGreatDoor
open Go.RowKit
def tLo (l : List Nat) (a b : Nat) : Nat := if outB l a b = true then 0 else loV l a 0
def tHi (l : List Nat) (a b : Nat) : Nat := if outB l a b = true then 0 else hiV l b (l.length - 2)
def tEr (l : List Nat) (a b : Nat) : Int := if outB l a b = true then 71 else 0
set_option maxHeartbeats 4000000 in
theorem touched_any (b off cap n : Nat) (xs : List Nat) (hn : xs.length = n + 2) (hm : n ≤ 23) (w : World) (hb : b < w.heap.size) (hcell : ∀ i, i < xs.length → w.cell? ⟨b, off + i, none⟩ = some (.float .f64 (xs.getD i 0)))
  (p q : Nat) :
  Calls Tryz.prog 248 #[.slice (some ⟨b, off, none⟩) xs.length cap, .float .f64 p, .float .f64 q] w fun e w' => e = .returned (.tuple #[.agg #[.int .i64 (tLo xs p q), .int .i64 (tHi xs p q)], .int .i64 (tEr xs p q)]) ∧ Below w.heap.size w w' := by
 have olt : ∀ a b, (FloatKind.f64.format.order a b == some .lt) = ltb a b := fun _ _ => rfl
 have ogt : ∀ a b, (FloatKind.f64.format.order a b == some .gt) = gtb a b := fun _ _ => rfl
 have oge : ∀ a b, (gtb a b || FloatKind.f64.format.order a b == some .eq) = geb a b := fun _ _ => rfl
 have HC := Lib.hid hcell
 have c0 := hcell 0 (by omega)
 have c1 := hcell (n + 1) (by omega)
 rw [Nat.add_zero] at c0
 have HO := Lib.hid (show outB xs p q = (gtb p (xs.getD (n + 1) 0) || ltb q (xs.getD 0 0)) by unfold outB; rw [hn]; rfl)
 have HN := Lib.hid (hi_next xs q)
 have HE := Lib.hid (hi_end xs q)
 have HLN := Lib.hid (lo_next xs p)
 have HLE := Lib.hid (lo_end xs p)
 have HT2 := Lib.hid (show tHi xs p q = if outB xs p q = true then 0 else hiV xs q n by unfold tHi; rw [hn]; rfl)
 rw [hn] at *
 clear hn
 clear hcell
 rcases Bool.eq_false_or_eq_true (gtb p (xs.getD (n + 1) 0)) with g1 | g1
 ·have ho := HO.out
  rw [g1, Bool.true_or] at ho
  have T1 : tLo xs p q = 0 := by unfold tLo; rw [if_pos ho]
  have T2 : tHi xs p q = 0 := by unfold tHi; rw [if_pos ho]
  have T3 : tEr xs p q = 71 := by unfold tEr; rw [if_pos ho]
  rw [T1, T2, T3]
  clear ho T1 T2 T3
  generalize xs.getD (n + 1) 0 = f1 at *
  generalize xs.getD 0 0 = f0 at *
  go_enter Tryz.func248, Tryz.ntmps248
  go_wp2
  exact bodyPost_ret (v := .tuple #[.agg #[.int .i64 0, .int .i64 0], .int .i64 71]) (by simp [results, Tryz.results248, go_sem]) rfl ⟨rfl, Below.al (Below.refl _ _) _⟩
 ·rcases Bool.eq_false_or_eq_true (ltb q (xs.getD 0 0)) with g2 | g2
  ·have ho := HO.out
   rw [g1, g2, Bool.false_or] at ho
   have T1 : tLo xs p q = 0 := by unfold tLo; rw [if_pos ho]
   have T2 : tHi xs p q = 0 := by unfold tHi; rw [if_pos ho]
   have T3 : tEr xs p q = 71 := by unfold tEr; rw [if_pos ho]
   rw [T1, T2, T3]
   clear ho T1 T2 T3
   generalize xs.getD (n + 1) 0 = f1 at *
   generalize xs.getD 0 0 = f0 at *
   go_enter Tryz.func248, Tryz.ntmps248
   go_wp2
   exact bodyPost_ret (v := .tuple #[.agg #[.int .i64 0, .int .i64 0], .int .i64 71]) (by simp [results, Tryz.results248, go_sem]) rfl ⟨rfl, Below.al (Below.refl _ _) _⟩
  ·have ho := HO.out
   rw [g1, g2, Bool.false_or] at ho
   have T1 : tLo xs p q = loV xs p 0 := by unfold tLo; rw [if_neg (by rw [ho]; simp)]
   have T2 : tHi xs p q = hiV xs q n := by rw [HT2.out, if_neg (by rw [ho]; simp)]
   have T3 : tEr xs p q = 0 := by unfold tEr; rw [if_neg (by rw [ho]; simp)]
   rw [T1, T2, T3]
   have G2 := Lib.hid g2
   clear ho T1 T2 T3 HO
   generalize xs.getD (n + 1) 0 = f1 at c1 g1
   generalize xs.getD 0 0 = f0 at c0 g2
   go_enter Tryz.func248, Tryz.ntmps248
   go_wp2
   clear c0 c1 g1 g2
   go_loopg [46] n (fun gk _ wr => ∃ k : Nat, gk + k = n ∧ loV xs p k = loV xs p 0 ∧ Below w.heap.size w wr ∧
    wr.cell? ⟨w.heap.size, 0, none⟩ = some (.int .i64 0) ∧ wr.cell? ⟨w.heap.size, 1, none⟩ = some (.int .i64 0) ∧ wr.cell? ⟨w.heap.size + 1, 0, none⟩ = some (.int .i64 k) ∧ wr.cell? ⟨w.heap.size + 1, 1, none⟩ = some (.int .i64 n) ∧
    wr.frozen? ⟨w.heap.size, 0, none⟩ = false ∧ wr.frozen? ⟨w.heap.size, 1, none⟩ = false ∧ wr.frozen? ⟨w.heap.size + 1, 0, none⟩ = false ∧ wr.frozen? ⟨w.heap.size + 1, 1, none⟩ = false)
   case atStart =>
    refine ⟨0, rfl, rfl, ?_, by simp, by simp, by simp, by simp, by simp, by simp, by simp, by simp⟩
    (repeat (first | exact Below.refl _ _ | (with_reducible refine Below.st ?_ (by simp <;> omega)) | (with_reducible refine Below.al ?_ _)))
   case round =>
    obtain ⟨k, hk, hgo, hbl, r0, r1, s0, s1, z0, z1, z2, z3⟩ := hrel
    have HG := Lib.hid hgo
    have HB := Lib.hid hbl
    clear hgo
    obtain ⟨w1, hw1⟩ : ∃ w1, w1 = wr := ⟨_, rfl⟩
    subst hw1
    by_cases hkn : k < n
    ·have hcl := (hbl.cell (p := ⟨b, off + (k + 1), none⟩) hb).trans (HC.out (k + 1) (by omega))
     have HNX := Lib.hid (HLN.out k (by omega))
     have HEX := Lib.hid (fun h => HLE.out k (.inr h))
     clear hbl
     generalize xs.getD (k + 1) 0 = f at *
     rcases Bool.eq_false_or_eq_true (geb p f) with g | g
     ·have HR := Lib.hid (HNX.out g)
      go_wp2
      go_roundg (gk - 1)
      case measure => omega
      case rel =>
       refine ⟨k + 1, by omega, by rw [HR.out, HG.out], ?_, st_other r0 (by simp), st_other r1 (by simp), (st_same s0).trans (congrArg some (num_i (by omega))), st_other s1 (by simp), st_fz z0, st_fz z1, st_fz z2, st_fz z3⟩
       exact Below.st HB.out (by simp)
     ·have HR := Lib.hid (HEX.out g)
      go_wp2
      clear oge ogt
      go_loopg [58] n (fun gk _ wr => ∃ j : Nat, gk = j ∧ j ≤ n ∧ hiV xs q j = hiV xs q n ∧ Below w.heap.size w wr ∧
       wr.cell? ⟨w.heap.size, 0, none⟩ = some (.int .i64 0) ∧ wr.cell? ⟨w.heap.size, 1, none⟩ = some (.int .i64 0) ∧ wr.cell? ⟨w.heap.size + 1, 0, none⟩ = some (.int .i64 k) ∧ wr.cell? ⟨w.heap.size + 1, 1, none⟩ = some (.int .i64 j) ∧
       wr.frozen? ⟨w.heap.size, 0, none⟩ = false ∧ wr.frozen? ⟨w.heap.size, 1, none⟩ = false ∧ wr.frozen? ⟨w.heap.size + 1, 0, none⟩ = false ∧ wr.frozen? ⟨w.heap.size + 1, 1, none⟩ = false)
      case atStart => exact ⟨n, rfl, Nat.le_refl _, rfl, HB.out, r0, r1, s0, s1, z0, z1, z2, z3⟩
      case round =>
       clear r0 r1 s0 s1 z0 z1 z2 z3
       obtain ⟨j, rfl, hj, hgo2, hbl, r0, r1, s0, s1, z0, z1, z2, z3⟩ := hrel
       have HG2 := Lib.hid hgo2
       have hcl := (hbl.cell (p := ⟨b, off + gk, none⟩) hb).trans (HC.out gk (by omega))
       have HB2 := Lib.hid hbl
       have HNX2 := Lib.hid (fun h => HN.out gk h G2.out)
       have HEX2 := Lib.hid (HE.out gk)
       clear hbl hgo2
       generalize xs.getD gk 0 = f2 at *
       rcases Bool.eq_false_or_eq_true (ltb q f2) with g2 | g2
       ·obtain ⟨hp, hh⟩ := HNX2.out g2
        have HR2 := Lib.hid hh
        clear hh
        go_wp2
        go_roundg (gk - 1)
        case measure => omega
        case rel =>
         refine ⟨gk - 1, rfl, by omega, by rw [HR2.out, HG2.out], ?_, st_other r0 (by simp), st_other r1 (by simp), st_other s0 (by simp), (st_same s1).trans (congrArg some (num_i (by omega))), st_fz z0, st_fz z1, st_fz z2, st_fz z3⟩
         exact Below.st HB2.out (by simp)
       ·have HR2 := Lib.hid (HEX2.out g2)
        go_wp2
        have e1 : loV xs p 0 = k := by rw [← HG.out, HR.out]
        have e2 : hiV xs q n = gk := by rw [← HG2.out, HR2.out]
        rw [e1, e2]
        have q0 : ((wr.setCell ⟨w.heap.size, 0, none⟩ (.int .i64 k)).setCell ⟨w.heap.size, 1, none⟩ (.int .i64 gk)).cell? ⟨w.heap.size, 0, none⟩ = some (.int .i64 k) := st_other (st_same r0) (by simp)
        have q1 : ((wr.setCell ⟨w.heap.size, 0, none⟩ (.int .i64 k)).setCell ⟨w.heap.size, 1, none⟩ (.int .i64 gk)).cell? ⟨w.heap.size, 1, none⟩ = some (.int .i64 gk) := st_same (st_other r1 (by simp))
        exact bodyPost_ret (v := .tuple #[.agg #[.int .i64 k, .int .i64 gk], .int .i64 0]) (by simp [results, Tryz.results248, go_sem, q0, q1]) rfl ⟨rfl, Below.st (Below.st HB2.out (by simp)) (by simp)⟩
    ·obtain rfl : k = n := by omega
     clear hbl
     have HR := Lib.hid (HLE.out k (.inl (by omega)))
     go_wp2
     clear oge ogt
     go_loopg [58] k (fun gk _ wr => ∃ j : Nat, gk = j ∧ j ≤ k ∧ hiV xs q j = hiV xs q k ∧ Below w.heap.size w wr ∧
      wr.cell? ⟨w.heap.size, 0, none⟩ = some (.int .i64 0) ∧ wr.cell? ⟨w.heap.size, 1, none⟩ = some (.int .i64 0) ∧ wr.cell? ⟨w.heap.size + 1, 0, none⟩ = some (.int .i64 k) ∧ wr.cell? ⟨w.heap.size + 1, 1, none⟩ = some (.int .i64 j) ∧
      wr.frozen? ⟨w.heap.size, 0, none⟩ = false ∧ wr.frozen? ⟨w.heap.size, 1, none⟩ = false ∧ wr.frozen? ⟨w.heap.size + 1, 0, none⟩ = false ∧ wr.frozen? ⟨w.heap.size + 1, 1, none⟩ = false)
     case atStart => exact ⟨k, rfl, Nat.le_refl _, rfl, HB.out, r0, r1, s0, s1, z0, z1, z2, z3⟩
     case round =>
      clear r0 r1 s0 s1 z0 z1 z2 z3
      obtain ⟨j, rfl, hj, hgo2, hbl, r0, r1, s0, s1, z0, z1, z2, z3⟩ := hrel
      have HG2 := Lib.hid hgo2
      have hcl := (hbl.cell (p := ⟨b, off + gk, none⟩) hb).trans (HC.out gk (by omega))
      have HB2 := Lib.hid hbl
      have HNX2 := Lib.hid (fun h => HN.out gk h G2.out)
      have HEX2 := Lib.hid (HE.out gk)
      clear hbl hgo2
      generalize xs.getD gk 0 = f2 at *
      rcases Bool.eq_false_or_eq_true (ltb q f2) with g2 | g2
      ·obtain ⟨hp, hh⟩ := HNX2.out g2
       have HR2 := Lib.hid hh
       clear hh
       go_wp2
       go_roundg (gk - 1)
       case measure => omega
       case rel =>
        refine ⟨gk - 1, rfl, by omega, by rw [HR2.out, HG2.out], ?_, st_other r0 (by simp), st_other r1 (by simp), st_other s0 (by simp), (st_same s1).trans (congrArg some (num_i (by omega))), st_fz z0, st_fz z1, st_fz z2, st_fz z3⟩
        exact Below.st HB2.out (by simp)
      ·have HR2 := Lib.hid (HEX2.out g2)
       go_wp2
       have e1 : loV xs p 0 = k := by rw [← HG.out, HR.out]
       have e2 : hiV xs q k = gk := by rw [← HG2.out, HR2.out]
       rw [e1, e2]
       have q0 : ((wr.setCell ⟨w.heap.size, 0, none⟩ (.int .i64 k)).setCell ⟨w.heap.size, 1, none⟩ (.int .i64 gk)).cell? ⟨w.heap.size, 0, none⟩ = some (.int .i64 k) := st_other (st_same r0) (by simp)
       have q1 : ((wr.setCell ⟨w.heap.size, 0, none⟩ (.int .i64 k)).setCell ⟨w.heap.size, 1, none⟩ (.int .i64 gk)).cell? ⟨w.heap.size, 1, none⟩ = some (.int .i64 gk) := st_same (st_other r1 (by simp))
       exact bodyPost_ret (v := .tuple #[.agg #[.int .i64 k, .int .i64 gk], .int .i64 0]) (by simp [results, Tryz.results248, go_sem, q0, q1]) rfl ⟨rfl, Below.st (Below.st HB2.out (by simp)) (by simp)⟩
end Go.Proofs.YtmecohdedghiaaaGreatDoor
namespace Go.Proofs.YtmecohdedghiaaaGreatDoor
open Go.RowKit
def laneV (l : List Nat) (x : Nat) : Int := if chkE l = 0 then (if nanb x = true then 0 else if outB l x x = true then 0 else (loV l x 0 : Int)) else 0
def laneE (l : List Nat) (x : Nat) : Int := if chkE l = 0 then (if nanb x = true then 20 else if outB l x x = true then 71 else 0) else chkE l
/-- Right borders as cells. -/
theorem rise_cells {w : World} {B : Nat} {v : Value} {xs : List Nat} (h : KF.IsL w B v xs) (hz : chkE xs = 0) : Rise xs ∧ ∃ b off cap n, v = .slice (some ⟨b, off, none⟩) xs.length cap ∧ xs.length = n + 2 ∧ n ≤ 23 ∧ b < B ∧
  (∀ i, i < xs.length → w.cell? ⟨b, off + i, none⟩ = some (.float .f64 (xs.getD i 0))) ∧ (∀ i, i < xs.length → xs.getD i 0 < 18446744073709551616) := by
 have hr := rise_of xs hz
 have h2 := hr.two
 have h3 := hr.most
 obtain ⟨b, off, cap, rfl, hc, hb, hl, hcell, hlt⟩ := KF.cells h (by omega)
 exact ⟨hr, b, off, cap, xs.length - 2, rfl, by omega, by omega, hb, hcell, hlt⟩
theorem nanb_of {x : Nat} (h : nanb x = false) : ¬ nan x := by unfold nanb at h; simpa using h
end Go.Proofs.YtmecohdedghiaaaGreatDoor
namespace Go.Proofs.YtmecohdedghiaaaGreatDoor
open Go.RowKit
def widV (l : List Nat) (k : Int) : Nat := if chkE l = 0 ∧ 0 ≤ k ∧ k + 1 < l.length then (Ieee.double.sub (l.getD (k.toNat + 1) 0) (l.getD k.toNat 0)).getD 0 else 0
set_option maxHeartbeats 2000000 in
theorem touches_any (b off cap n : Nat) (xs : List Nat) (hn : xs.length = n + 2) (hm : n ≤ 23) (w : World) (hcell : ∀ i, i < xs.length → w.cell? ⟨b, off + i, none⟩ = some (.float .f64 (xs.getD i 0))) (k : Nat) (hk : k ≤ n) (p q : Nat) :
  Calls Tryz.prog 263 #[.slice (some ⟨b, off, none⟩) xs.length cap, .int .i64 k, .float .f64 p, .float .f64 q] w fun e w' => e = .returned (.bool (tchB xs p q k)) ∧ w = w' := by
 have olt : ∀ a b, (FloatKind.f64.format.order a b == some .lt) = ltb a b := fun _ _ => rfl
 have ogt : ∀ a b, (FloatKind.f64.format.order a b == some .gt) = gtb a b := fun _ _ => rfl
 have oge : ∀ a b, (gtb a b || FloatKind.f64.format.order a b == some .eq) = geb a b := fun _ _ => rfl
 have ole : ∀ a b, (ltb a b || FloatKind.f64.format.order a b == some .eq) = leb a b := fun _ _ => rfl
 have c0 := hcell k (by omega)
 have c1 := hcell (k + 1) (by omega)
 have HT := Lib.hid (show tchB xs p q k = ((if k + 2 = xs.length then leb p (xs.getD (k + 1) 0) else ltb p (xs.getD (k + 1) 0)) && geb q (xs.getD k 0)) from rfl)
 clear hcell
 by_cases he : k = n
 ·subst he
  rw [HT.out, if_pos hn.symm]
  clear HT
  rw [hn]
  clear hn
  generalize xs.getD (k + 1) 0 = f1 at *
  generalize xs.getD k 0 = f0 at *
  rcases Bool.eq_false_or_eq_true (leb p f1) with g | g
  all_goals
   rw [g]
   go_enter Tryz.func263, Tryz.ntmps263
   go_wp2
   go_ret
   exact ⟨ret_b (by simp), rfl⟩
 ·rw [HT.out, if_neg (by omega)]
  clear HT
  rw [hn]
  clear hn
  generalize xs.getD (k + 1) 0 = f1 at *
  generalize xs.getD k 0 = f0 at *
  rcases Bool.eq_false_or_eq_true (ltb p f1) with g | g
  all_goals
   rw [g]
   go_enter Tryz.func263, Tryz.ntmps263
   go_wp2
   go_ret
   exact ⟨ret_b (by simp), rfl⟩
end Go.Proofs.YtmecohdedghiaaaGreatDoor
namespace Go.Proofs.YtmecohdedghiaaaGreatDoor
open Go.RowKit
/-- A no-number that is drawn. -/
def nd (x y : Nat) (w : World) : Nat := Question.cut (.nanBits .f64 x y) (w.tape w.drawn (.nanBits .f64 x y))
theorem nd_nan (x y : Nat) (w : World) : nanb (nd x y w) = true := by
 apply decide_eq_true
 unfold nd
 generalize w.tape w.drawn (.nanBits .f64 x y) = t
 show 9218868437227405312 < Question.cut (.nanBits .f64 x y) t % 9223372036854775808
 simp only [Question.cut, Nat.reducePow, Nat.reduceSub]
 have h1 : t % 2 = 0 ∨ t % 2 = 1 := by omega
 have h2 : t / 2 % 4503599627370495 < 4503599627370495 := Nat.mod_lt _ (by decide)
 generalize t / 2 % 4503599627370495 = c at *
 rcases h1 with h1 | h1
 ·rw [h1]; omega
 ·rw [h1]; omega
/-- A difference, where it is a number and where not. -/
theorem sub_run (x y : Nat) (h64 : y < 18446744073709551616) : ∃ (d : Nat) (s : World → Nat), (∀ w, (binOp .sub 84 (.float .f64 x) (.float .f64 y)).run Tryz.prog w = .ok (.float .f64 (s w)) (w.drewN d)) ∧
  ((Ieee.double.sub x y = none ∧ ∀ w, nanb (s w) = true) ∨ ∃ p, Ieee.double.sub x y = some p ∧ nanb p = false ∧ s = fun _ => p) := by
 rcases he : Ieee.double.sub x y with _ | p
 ·refine ⟨1, nd x y, fun w => ?_, .inl ⟨rfl, nd_nan x y⟩⟩
  have he' : FloatKind.f64.format.sub x y = none := he
  simp [binOp, Op.floatArith, he', Question.forced]
  exact ⟨rfl, rfl⟩
 ·refine ⟨0, fun _ => p, fun w => run_float_arith (P := Tryz.prog) w .sub 84 .f64 _ _ _ he, .inr ⟨p, rfl, ?_, rfl⟩⟩
  unfold nanb
  rw [decide_eq_false_iff_not]
  have hc : ¬ (nan x ∨ nan y ∨ clashS x y) := fun h => by rw [sub_none x y h64 h] at he; cases he
  obtain ⟨q, hq, hn, _⟩ := sub_some x y h64 (fun h => hc (.inl h)) (fun h => hc (.inr (.inl h))) (fun h => hc (.inr (.inr h)))
  rw [he] at hq
  cases hq
  exact hn
theorem add_run (x y : Nat) : ∃ (d : Nat) (s : World → Nat), (∀ w, (binOp .add 84 (.float .f64 x) (.float .f64 y)).run Tryz.prog w = .ok (.float .f64 (s w)) (w.drewN d)) ∧
  ((Ieee.double.add x y = none ∧ ∀ w, nanb (s w) = true) ∨ ∃ p, Ieee.double.add x y = some p ∧ nanb p = false ∧ s = fun _ => p) := by
 rcases he : Ieee.double.add x y with _ | p
 ·refine ⟨1, nd x y, fun w => ?_, .inl ⟨rfl, nd_nan x y⟩⟩
  have he' : FloatKind.f64.format.add x y = none := he
  simp [binOp, Op.floatArith, he', Question.forced]
  exact ⟨rfl, rfl⟩
 ·refine ⟨0, fun _ => p, fun w => run_float_arith (P := Tryz.prog) w .add 84 .f64 _ _ _ he, .inr ⟨p, rfl, ?_, rfl⟩⟩
  unfold nanb
  rw [decide_eq_false_iff_not]
  have hc : ¬ (nan x ∨ nan y ∨ clash x y) := fun h => by rw [add_none x y h] at he; cases he
  obtain ⟨q, hq, hn, _⟩ := add_some x y (fun h => hc (.inl h)) (fun h => hc (.inr (.inl h))) (fun h => hc (.inr (.inr h)))
  rw [he] at hq
  cases hq
  exact hn
/-- What Reach answers: the first lane, the last one, the error. -/
def rch (l : List Nat) (x r : Nat) : Nat × Nat × Int :=
 if chkE l = 0 then
  (if nanb x = true ∨ nanb r = true then (0, 0, 20)
  else if ltb r 0 = true then (0, 0, 22)
  else match Ieee.double.sub x r, Ieee.double.add x r with
   | some a, some b => (tLo l a b, tHi l a b, tEr l a b)
   | _, _ => (0, 0, 20))
 else (0, 0, chkE l)
/-- The value that Reach hands back. -/
def rchVal (t : Nat × Nat × Int) : Value := .tuple #[.agg #[.int .i64 t.1, .int .i64 t.2.1], .int .i64 t.2.2]
set_option maxHeartbeats 4000000 in
theorem reach_any (v : Value) (xs : List Nat) (x r : Nat) (h64 : r < 18446744073709551616) (w : World) (h : KF.IsL w w.heap.size v xs) : Calls Tryz.prog 218 #[v, .float .f64 x, .float .f64 r] w fun e w' => e = .returned (rchVal (rch xs x r)) ∧ Below w.heap.size w w' := by
 have olt : ∀ a b, (FloatKind.f64.format.order a b == some .lt) = ltb a b := fun _ _ => rfl
 have h1 : KF.IsL (w.alloc (.cells #[.int .i64 0, .int .i64 0] 134)) (w.alloc (.cells #[.int .i64 0, .int .i64 0] 134)).heap.size v xs := h.then (Below.al (Below.refl _ _) _)
 have HK := Lib.hid (check_any v xs _ h1)
 have HB0 := Lib.hid (Below.al (Below.refl w.heap.size w) (.cells #[.int .i64 0, .int .i64 0] 134))
 by_cases hz : chkE xs = 0
 ·obtain ⟨hr, b, off, cap, n, rfl, hn, hm, hb, hcell, hlt⟩ := rise_cells h1 hz
  rw [hz] at HK
  obtain ⟨ds, sV, hs, hs2⟩ := sub_run x r h64
  obtain ⟨da, aV, ha, ha2⟩ := add_run x r
  have HR := Lib.hid (show rch xs x r = (if nanb x = true ∨ nanb r = true then (0, 0, 20) else if ltb r 0 = true then (0, 0, 22) else match Ieee.double.sub x r, Ieee.double.add x r with
   | some a, some b => (tLo xs a b, tHi xs a b, tEr xs a b)
   | _, _ => (0, 0, 20)) by unfold rch; rw [if_pos hz])
  rcases Bool.eq_false_or_eq_true (nanb x) with hx | hx
  ·have T : rch xs x r = (0, 0, 20) := by rw [HR.out, if_pos (.inl hx)]
   rw [T]
   clear T HR hr hcell hlt hz h h1 hs2 ha2 hn
   unfold rchVal
   go_enter Tryz.func218, Tryz.ntmps218
   go_wp2_with fail
   refine HK.out.mono ?_
   rintro e w' ⟨rfl, rfl⟩
   go_wp2_with fail
   refine (isNone_any _ _).mono ?_
   rintro e w' ⟨rfl, rfl⟩
   go_wp2_with (go_at_call 247; refine (isNone_any _ _).mono ?_; rintro e w' ⟨rfl, rfl⟩)
   exact bodyPost_ret (v := .tuple #[.agg #[.int .i64 0, .int .i64 0], .int .i64 20]) (by simp [results, Tryz.results218, go_sem]) rfl ⟨rfl, Below.st (Below.st (below_drewN HB0.out _) (Nat.le_refl _)) (Nat.le_refl _)⟩
  ·rcases Bool.eq_false_or_eq_true (nanb r) with hy | hy
   ·have T : rch xs x r = (0, 0, 20) := by rw [HR.out, if_pos (.inr hy)]
    rw [T]
    clear T HR hr hcell hlt hz h h1 hs2 ha2 hn
    unfold rchVal
    go_enter Tryz.func218, Tryz.ntmps218
    go_wp2_with fail
    refine HK.out.mono ?_
    rintro e w' ⟨rfl, rfl⟩
    go_wp2_with (go_at_call 247; refine (isNone_any _ _).mono ?_; rintro e w' ⟨rfl, rfl⟩)
    exact bodyPost_ret (v := .tuple #[.agg #[.int .i64 0, .int .i64 0], .int .i64 20]) (by simp [results, Tryz.results218, go_sem]) rfl ⟨rfl, Below.st (Below.st (below_drewN HB0.out _) (Nat.le_refl _)) (Nat.le_refl _)⟩
   ·have hor : ¬ (nanb x = true ∨ nanb r = true) := by rw [hx, hy]; simp
    have HR2 := Lib.hid (HR.out.trans (if_neg hor))
    clear HR hor
    rcases Bool.eq_false_or_eq_true (ltb r 0) with hl | hl
    ·have T : rch xs x r = (0, 0, 22) := by rw [HR2.out, if_pos hl]
     rw [T]
     clear T HR2 hr hcell hlt hz h h1 hs2 ha2 hn
     unfold rchVal
     go_enter Tryz.func218, Tryz.ntmps218
     go_wp2_with fail
     refine HK.out.mono ?_
     rintro e w' ⟨rfl, rfl⟩
     go_wp2_with (go_at_call 247; refine (isNone_any _ _).mono ?_; rintro e w' ⟨rfl, rfl⟩)
     exact bodyPost_ret (v := .tuple #[.agg #[.int .i64 0, .int .i64 0], .int .i64 22]) (by simp [results, Tryz.results218, go_sem]) rfl ⟨rfl, Below.st (Below.st (below_drewN HB0.out _) (Nat.le_refl _)) (Nat.le_refl _)⟩
    ·have HR3 := Lib.hid (HR2.out.trans (if_neg (by rw [hl]; simp)))
     clear HR2
     rcases hs2 with ⟨es, hs2⟩ | ⟨a, es, hs2, rfl⟩
     ·have T : rch xs x r = (0, 0, 20) := by rw [HR3.out, es]
      rw [T]
      clear T HR3 hr hcell hlt hz h h1 ha2 hn es
      unfold rchVal
      go_enter Tryz.func218, Tryz.ntmps218
      go_wp2_with fail
      refine HK.out.mono ?_
      rintro e w' ⟨rfl, rfl⟩
      go_wp2_with (go_at_call 247; refine (isNone_any _ _).mono ?_; rintro e w' ⟨rfl, rfl⟩)
      exact bodyPost_ret (v := .tuple #[.agg #[.int .i64 0, .int .i64 0], .int .i64 20]) (by simp [results, Tryz.results218, go_sem]) rfl ⟨rfl, Below.st (Below.st (below_drewN HB0.out _) (Nat.le_refl _)) (Nat.le_refl _)⟩
     ·rcases ha2 with ⟨ea, ha2⟩ | ⟨q, ea, ha2, rfl⟩
      ·have T : rch xs x r = (0, 0, 20) := by rw [HR3.out, es, ea]
       rw [T]
       clear T HR3 hr hcell hlt hz h h1 hn es ea
       unfold rchVal
       go_enter Tryz.func218, Tryz.ntmps218
       go_wp2_with fail
       refine HK.out.mono ?_
       rintro e w' ⟨rfl, rfl⟩
       go_wp2_with (go_at_call 247; refine (isNone_any _ _).mono ?_; rintro e w' ⟨rfl, rfl⟩)
       exact bodyPost_ret (v := .tuple #[.agg #[.int .i64 0, .int .i64 0], .int .i64 20]) (by simp [results, Tryz.results218, go_sem]) rfl ⟨rfl, Below.st (Below.st (below_drewN HB0.out _) (Nat.le_refl _)) (Nat.le_refl _)⟩
      ·have T : rch xs x r = (tLo xs a q, tHi xs a q, tEr xs a q) := by rw [HR3.out, es, ea]
       have HT := Lib.hid (fun d => touched_any b off cap n xs hn hm ((w.alloc (.cells #[.int .i64 0, .int .i64 0] 134)).drewN d) hb hcell a q)
       rw [T]
       clear T HR3 hr hcell hlt hz h h1 hn es ea
       generalize tLo xs a q = A at *
       generalize tHi xs a q = B at *
       generalize tEr xs a q = C at *
       unfold rchVal
       dsimp only
       go_enter Tryz.func218, Tryz.ntmps218
       go_wp2_with fail
       refine HK.out.mono ?_
       rintro e w' ⟨rfl, rfl⟩
       go_wp2_with (first | (go_at_call 247; refine (isNone_any _ _).mono ?_; rintro e w' ⟨rfl, rfl⟩) | (go_at_call 248; refine (HT.out _).mono ?_; rintro e w2 ⟨rfl, hb2⟩; have r0 : w2.cell? ⟨w.heap.size, 0, none⟩ = some (.int .i64 0) := keep_cell hb2 (by simp); have r1 : w2.cell? ⟨w.heap.size, 1, none⟩ = some (.int .i64 0) := keep_cell hb2 (by simp); have z0 : w2.frozen? ⟨w.heap.size, 0, none⟩ = false := (hb2.frozen (p := ⟨w.heap.size, 0, none⟩) (by simp)).trans (by simp); have z1 : w2.frozen? ⟨w.heap.size, 1, none⟩ = false := (hb2.frozen (p := ⟨w.heap.size, 1, none⟩) (by simp)).trans (by simp); have HB2 := Lib.hid (Below.call (below_drewN HB0.out _) hb2); clear hb2))
       exact bodyPost_ret (v := .tuple #[.agg #[.int .i64 A, .int .i64 B], .int .i64 C]) (by simp [results, Tryz.results218, go_sem, r0, r1]) rfl ⟨rfl, Below.st (Below.st HB2.out (Nat.le_refl _)) (Nat.le_refl _)⟩
 ·have T : rch xs x r = (0, 0, chkE xs) := by unfold rch; rw [if_neg hz]
  rw [T]
  have hz' : (chkE xs != 0) = true := by rw [bne_iff_ne]; exact hz
  clear T h h1 hz
  generalize chkE xs = c at *
  unfold rchVal
  go_enter Tryz.func218, Tryz.ntmps218
  go_wp2_with fail
  refine HK.out.mono ?_
  rintro e w' ⟨rfl, rfl⟩
  go_wp2
  exact bodyPost_ret (v := .tuple #[.agg #[.int .i64 0, .int .i64 0], .int .i64 c]) (by simp [results, Tryz.results218, go_sem]) rfl ⟨rfl, HB0.out⟩
end Go.Proofs.YtmecohdedghiaaaGreatDoor
namespace Go.Proofs.YtmecohdedghiaaaGreatDoor
open Go.RowKit
/-- Lists of whole numbers. -/
noncomputable def KI : Lk Tryz.prog Int where
 S := 27
 E := 3
 n := 1
 zero := .int .i64 0
 bytes := 8
 cells x := [.int .i64 x]
 dflt := 0
 ok x := fits x
 und := Tryz.underlying27
 info := by kernel_rfl
 zs := rfl
 pos := by decide
 small := by decide
 len _ := rfl
 one x u hu := by rw [List.mem_singleton] at hu; subst hu; rfl
theorem KI.cells {w : World} {B : Nat} {v : Value} {xs : List Int} (h : KI.IsL w B v xs) (h0 : 0 < xs.length) : ∃ b off cap, v = .slice (some ⟨b, off, none⟩) xs.length cap ∧ xs.length ≤ cap ∧ b < B ∧ xs.length ≤ 9223372036854775807 ∧
  (∀ i, i < xs.length → w.cell? ⟨b, off + i, none⟩ = some (.int .i64 (xs.getD i 0))) ∧ (∀ i, i < xs.length → fits (xs.getD i 0)) := by
 obtain ⟨⟨A, cap, rfl, hc, hA⟩, hf, hl⟩ := h
 obtain ⟨b, off, rfl, hb, hcell⟩ := hA h0
 refine ⟨b, off, cap, rfl, hc, hb, hl, fun i hi => ?_, fun i hi => hf _ (getD_mem' xs i 0 hi)⟩
 have := hcell i hi 0 (.int .i64 (xs.getD i 0)) rfl
 simpa [KI] using this
theorem alloc_at (w : World) (cs : Array Value) (t : TypeId) (o : Nat) : (w.alloc (.cells cs t)).cell? ⟨w.heap.size, o, none⟩ = cs[o]? := by
 unfold World.cell?
 rw [heap_alloc_new]
 rfl
/-- A literal list, laid in a new block. -/
theorem Lk.IsL.lits {P : Program} {α : Type} {K : Lk P α} (w : World) (xs : List α) (cs : Array Value) (hx : ∀ x ∈ xs, K.ok x) (hcs : cs = (K.flat xs).toArray) (hl : xs.length ≤ 9223372036854775807) (H : Nat) (e : w.heap.size = H) :
  K.IsL (w.alloc (.cells cs K.E)) (H + 1) (.slice (some ⟨H, 0, none⟩) xs.length xs.length) xs := by
 subst e
 subst hcs
 refine ⟨⟨_, _, rfl, Nat.le_refl _, fun _ => ⟨_, _, rfl, Nat.lt_succ_self _, fun i hi j u hu => ?_⟩⟩, hx, hl⟩
 have hj : j < K.n := by
  have := (List.getElem?_eq_some_iff.1 hu).1
  rw [K.len] at this
  exact this
 rw [Nat.zero_add, alloc_at, List.getElem?_toArray, K.flat_at xs i j hi hj, hu]
end Go.Proofs.YtmecohdedghiaaaGreatDoor
namespace Go.Proofs.YtmecohdedghiaaaGreatDoor
open Go.RowKit
def ints (l : List Nat) : List Int := l.map Int.ofNat
theorem tchs_next (l : List Nat) (a b k : Nat) : ints (tchs l a b (k + 1)) = ints (tchs l a b k) ++ (if tchB l a b k = true then [(k : Int)] else []) := by
 unfold tchs ints
 rw [List.range_succ, List.filter_append, List.map_append]
 congr 1
 by_cases h : tchB l a b k = true
 ·rw [if_pos h]; simp [h]
 ·rw [if_neg h]; simp [h]
theorem tchs_len (l : List Nat) (a b k : Nat) : (ints (tchs l a b k)).length ≤ k := by
 unfold tchs ints
 rw [List.length_map]
 have := List.length_filter_le (tchB l a b) (List.range k)
 rw [List.length_range] at this
 exact this
theorem sub_le_add (x r a q : Nat) (h64 : r < 18446744073709551616) (hx : ¬ nan x) (hr : ¬ nan r) (h0 : 0 ≤ vf r) (es : Ieee.double.sub x r = some a) (ea : Ieee.double.add x r = some q) : ¬ nan a ∧ ¬ nan q ∧ vf a ≤ vf x ∧ vf x ≤ vf q := by
 have h1 : ¬ clashS x r := fun h => by rw [sub_none x r h64 (.inr (.inr h))] at es; cases es
 have h2 : ¬ clash x r := fun h => by rw [add_none x r (.inr (.inr h))] at ea; cases ea
 obtain ⟨p, e1, n1, _, v1⟩ := sub_some x r h64 hx hr h1
 obtain ⟨p2, e2, n2, _, v2⟩ := add_some x r hx hr h2
 rw [es] at e1
 rw [ea] at e2
 cases e1
 cases e2
 have hz : xv 0 = 0 := by
  unfold xv
  have : rg 0 = 0 := rfl
  rw [this, rw_0]
  unfold sg
  split <;> rfl
 have n0 : ¬ nan 0 := by unfold nan; omega
 have v0 : vf 0 = 0 := by
  have := RI_xv 0 n0
  rw [hz] at this
  rw [← this]
  unfold RI sg
  rw [if_neg (by decide)]
  exact congrArg _ R_0
 have hp : 0 ≤ xv r := by
  have := xv_mono n0 hr (by rw [v0]; exact h0)
  rw [hz] at this
  exact this
 have hxx := RI_xv x hx
 refine ⟨n1, n2, ?_, ?_⟩
 ·rw [v1, ← hxx]; exact RI_mono (by omega)
 ·rw [v2, ← hxx]; exact RI_mono (by omega)
theorem vf_0 : vf 0 = 0 := by
 unfold vf sg rg sb
 rfl
theorem ltb_0 (r : Nat) (hr : ¬ nan r) (h : ltb r 0 = false) : 0 ≤ vf r := by
 have n0 : ¬ nan 0 := by unfold nan; omega
 rw [ltb_num hr n0, vf_0, decide_eq_false_iff_not] at h
 omega
theorem rch_bad (l : List Nat) (x r : Nat) (hz : chkE l ≠ 0) : rch l x r = (0, 0, chkE l) := by unfold rch; rw [if_neg hz]
theorem rch_nan (l : List Nat) (x r : Nat) (hz : chkE l = 0) (h : nanb x = true ∨ nanb r = true) : rch l x r = (0, 0, 20) := by unfold rch; rw [if_pos hz, if_pos h]
theorem rch_neg (l : List Nat) (x r : Nat) (hz : chkE l = 0) (hx : nanb x = false) (hy : nanb r = false) (hl : ltb r 0 = true) : rch l x r = (0, 0, 22) := by unfold rch; rw [if_pos hz, if_neg (by rw [hx, hy]; simp), if_pos hl]
theorem rch_none (l : List Nat) (x r : Nat) (hz : chkE l = 0) (hx : nanb x = false) (hy : nanb r = false) (hl : ltb r 0 = false) (h : Ieee.double.sub x r = none ∨ Ieee.double.add x r = none) : rch l x r = (0, 0, 20) := by
 unfold rch
 rw [if_pos hz, if_neg (by rw [hx, hy]; simp), if_neg (by rw [hl]; simp)]
 rcases h with h | h
 ·rw [h]
 ·rw [h]
  cases Ieee.double.sub x r <;> rfl
theorem rch_some (l : List Nat) (x r a b : Nat) (hz : chkE l = 0) (hx : nanb x = false) (hy : nanb r = false) (hl : ltb r 0 = false) (h1 : Ieee.double.sub x r = some a) (h2 : Ieee.double.add x r = some b) : rch l x r = (tLo l a b, tHi l a b, tEr l a b) := by
 unfold rch
 rw [if_pos hz, if_neg (by rw [hx, hy]; simp), if_neg (by rw [hl]; simp), h1, h2]
end Go.Proofs.YtmecohdedghiaaaGreatDoor
namespace Go.Proofs.YtmecohdedghiaaaGreatDoor
open Go.RowKit
set_option maxHeartbeats 4000000 in
theorem rreach_0 (v : Value) (xs : List Nat) (x r : Nat) (h64 : r < 18446744073709551616) (w : World) (h : KF.IsL w w.heap.size v xs) (hno : chkE xs ≠ 0 ∨ nanb x = true ∨ nanb r = true ∨ ltb r 0 = true ∨ Ieee.double.sub x r = none ∨ Ieee.double.add x r = none) : Calls Tryz.prog 246 #[v, .float .f64 x, .float .f64 r] w fun e w' => e = .returned (rchVal (rch xs x r)) ∧ Below w.heap.size w w' := by
 have olt : ∀ a b, (FloatKind.f64.format.order a b == some .lt) = ltb a b := fun _ _ => rfl
 have h1 : KF.IsL (w.alloc (.cells #[.int .i64 0, .int .i64 0] 134)) (w.alloc (.cells #[.int .i64 0, .int .i64 0] 134)).heap.size v xs := h.then (Below.al (Below.refl _ _) _)
 have HK := Lib.hid (rcheck_any v xs _ h1)
 have HB0 := Lib.hid (Below.al (Below.refl w.heap.size w) (.cells #[.int .i64 0, .int .i64 0] 134))
 by_cases hz : chkE xs = 0
 ·rw [hz] at HK
  clear h h1
  obtain ⟨ds, sV, hs, hs2⟩ := sub_run x r h64
  obtain ⟨da, aV, ha, ha2⟩ := add_run x r
  rcases Bool.eq_false_or_eq_true (nanb x) with hx | hx
  ·have T : rch xs x r = (0, 0, 20) := rch_nan xs x r hz (.inl hx)
   rw [T]
   clear T hz hs2 ha2 hno hs ha
   unfold rchVal
   go_enter Tryz.func246, Tryz.ntmps246
   go_wp2_with fail
   refine HK.out.mono ?_
   rintro e w' ⟨rfl, d, rfl⟩
   go_wp2_with (go_at_call 223; refine (rnone_any _ _).mono ?_; rintro e w' ⟨rfl, rfl⟩)
   exact bodyPost_ret (v := .tuple #[.agg #[.int .i64 0, .int .i64 0], .int .i64 20]) (by simp [results, Tryz.results246, go_sem]) rfl ⟨rfl, Below.st (Below.st (below_drewN HB0.out _) (Nat.le_refl _)) (Nat.le_refl _)⟩
  ·rcases Bool.eq_false_or_eq_true (nanb r) with hy | hy
   ·have T : rch xs x r = (0, 0, 20) := rch_nan xs x r hz (.inr hy)
    rw [T]
    clear T hz hs2 ha2 hno hs ha
    unfold rchVal
    go_enter Tryz.func246, Tryz.ntmps246
    go_wp2_with fail
    refine HK.out.mono ?_
    rintro e w' ⟨rfl, d, rfl⟩
    go_wp2_with (go_at_call 223; refine (rnone_any _ _).mono ?_; rintro e w' ⟨rfl, rfl⟩)
    exact bodyPost_ret (v := .tuple #[.agg #[.int .i64 0, .int .i64 0], .int .i64 20]) (by simp [results, Tryz.results246, go_sem]) rfl ⟨rfl, Below.st (Below.st (below_drewN HB0.out _) (Nat.le_refl _)) (Nat.le_refl _)⟩
   ·rcases Bool.eq_false_or_eq_true (ltb r 0) with hl | hl
    ·have T : rch xs x r = (0, 0, 22) := rch_neg xs x r hz hx hy hl
     rw [T]
     clear T hz hs2 ha2 hno hs ha
     unfold rchVal
     go_enter Tryz.func246, Tryz.ntmps246
     go_wp2_with fail
     refine HK.out.mono ?_
     rintro e w' ⟨rfl, d, rfl⟩
     go_wp2_with (go_at_call 223; refine (rnone_any _ _).mono ?_; rintro e w' ⟨rfl, rfl⟩)
     exact bodyPost_ret (v := .tuple #[.agg #[.int .i64 0, .int .i64 0], .int .i64 22]) (by simp [results, Tryz.results246, go_sem]) rfl ⟨rfl, Below.st (Below.st (below_drewN HB0.out _) (Nat.le_refl _)) (Nat.le_refl _)⟩
    ·rcases hs2 with ⟨es, hs2⟩ | ⟨a, es, hs2, rfl⟩
     ·have T : rch xs x r = (0, 0, 20) := rch_none xs x r hz hx hy hl (.inl es)
      rw [T]
      clear T hz ha2 hno es
      unfold rchVal
      go_enter Tryz.func246, Tryz.ntmps246
      go_wp2_with fail
      refine HK.out.mono ?_
      rintro e w' ⟨rfl, d, rfl⟩
      go_wp2_with (go_at_call 223; refine (rnone_any _ _).mono ?_; rintro e w' ⟨rfl, rfl⟩)
      exact bodyPost_ret (v := .tuple #[.agg #[.int .i64 0, .int .i64 0], .int .i64 20]) (by simp [results, Tryz.results246, go_sem]) rfl ⟨rfl, Below.st (Below.st (below_drewN HB0.out _) (Nat.le_refl _)) (Nat.le_refl _)⟩
     ·rcases ha2 with ⟨ea, ha2⟩ | ⟨q, ea, ha2, rfl⟩
      ·have T : rch xs x r = (0, 0, 20) := rch_none xs x r hz hx hy hl (.inr ea)
       rw [T]
       clear T hz hno es ea
       unfold rchVal
       go_enter Tryz.func246, Tryz.ntmps246
       go_wp2_with fail
       refine HK.out.mono ?_
       rintro e w' ⟨rfl, d, rfl⟩
       go_wp2_with (go_at_call 223; refine (rnone_any _ _).mono ?_; rintro e w' ⟨rfl, rfl⟩)
       exact bodyPost_ret (v := .tuple #[.agg #[.int .i64 0, .int .i64 0], .int .i64 20]) (by simp [results, Tryz.results246, go_sem]) rfl ⟨rfl, Below.st (Below.st (below_drewN HB0.out _) (Nat.le_refl _)) (Nat.le_refl _)⟩
      ·exfalso
       rcases hno with h | h | h | h | h | h
       ·exact h hz
       ·rw [hx] at h; cases h
       ·rw [hy] at h; cases h
       ·rw [hl] at h; cases h
       ·rw [es] at h; cases h
       ·rw [ea] at h; cases h
 ·have T : rch xs x r = (0, 0, chkE xs) := rch_bad xs x r hz
  rw [T]
  have hz' : (chkE xs != 0) = true := by rw [bne_iff_ne]; exact hz
  clear T h h1 hz hno
  generalize chkE xs = c at *
  unfold rchVal
  go_enter Tryz.func246, Tryz.ntmps246
  go_wp2_with fail
  refine HK.out.mono ?_
  rintro e w' ⟨rfl, d, rfl⟩
  go_wp2
  exact bodyPost_ret (v := .tuple #[.agg #[.int .i64 0, .int .i64 0], .int .i64 c]) (by simp [results, Tryz.results246, go_sem]) rfl ⟨rfl, Below.st (Below.st (below_drewN HB0.out _) (Nat.le_refl _)) (Nat.le_refl _)⟩
set_option maxRecDepth 100000 in
set_option maxHeartbeats 4000000 in
theorem rreach_1 (v : Value) (xs : List Nat) (x r a q : Nat) (h64 : r < 18446744073709551616) (w : World) (h : KF.IsL w w.heap.size v xs) (hz : chkE xs = 0) (hx : nanb x = false) (hy : nanb r = false) (hl : ltb r 0 = false) (es : Ieee.double.sub x r = some a) (ea : Ieee.double.add x r = some q) :
  Calls Tryz.prog 246 #[v, .float .f64 x, .float .f64 r] w fun e w' => e = .returned (rchVal (tLo xs a q, tHi xs a q, tEr xs a q)) ∧ Below w.heap.size w w' := by
 have olt : ∀ a b, (FloatKind.f64.format.order a b == some .lt) = ltb a b := fun _ _ => rfl
 have h1 : KF.IsL (w.alloc (.cells #[.int .i64 0, .int .i64 0] 134)) (w.alloc (.cells #[.int .i64 0, .int .i64 0] 134)).heap.size v xs := h.then (Below.al (Below.refl _ _) _)
 have HK := Lib.hid (rcheck_any v xs _ h1)
 have HB0 := Lib.hid (Below.al (Below.refl w.heap.size w) (.cells #[.int .i64 0, .int .i64 0] 134))
 rw [hz] at HK
 obtain ⟨hr, b, off, cap, n, rfl, hn, hm, hb, hcell, hlt⟩ := rise_cells h1 hz
 obtain ⟨na, nq, s1, s2⟩ := sub_le_add x r a q h64 (nanb_of hx) (nanb_of hy) (ltb_0 r (nanb_of hy) hl) es ea
 have hs := fun w => run_float_arith (P := Tryz.prog) w .sub 84 .f64 _ _ _ es
 have ha := fun w => run_float_arith (P := Tryz.prog) w .add 84 .f64 _ _ _ ea
 have ha2 : nanb a = false := by unfold nanb; exact decide_eq_false na
 have hq2 : nanb q = false := by unfold nanb; exact decide_eq_false nq
 have HI := Lib.hid (tchs_in xs hr a q na nq (Int.le_trans s1 s2))
 have HO := Lib.hid (tchs_out xs hr a q na nq)
 have HSP := Lib.hid (fun ho => (lanes_spec xs hr a q na nq (Int.le_trans s1 s2) ho))
 have HT := Lib.hid (fun (w' : World) hc k hk => touches_any b off cap n xs hn hm w' hc k hk a q)
 have HN := Lib.hid (tchs_next xs a q)
 have HL := Lib.hid (tchs_len xs a q)
 have HC := Lib.hid hcell
 have hb' : b < w.heap.size + 1 := by simpa using hb
 have en : n + 2 - 1 = n + 1 := by omega
 have en2 : n + 2 - 2 = n := by omega
 rw [hn] at HK HC HI HO HSP
 rw [en] at HI HO HSP
 rw [en2] at HI HSP
 have HTH := Lib.hid (show tHi xs a q = if outB xs a q = true then 0 else hiV xs q n by unfold tHi; rw [hn, en2])
 rw [hn]
 simp only [hn] at HT
 clear h h1 hz hr hcell hlt hn hb es ea na nq s1 s2 en en2
 go_enter Tryz.func246, Tryz.ntmps246
 go_wp2_with fail
 refine HK.out.mono ?_
 rintro e w' ⟨rfl, d, rfl⟩
 go_wp2_with (go_at_call 223; refine (rnone_any _ _).mono ?_; rintro e w' ⟨rfl, rfl⟩)
 obtain ⟨w0, hw0⟩ : ∃ w0, w0 = (w.alloc (.cells #[.int .i64 0, .int .i64 0] 134)).drewN d := ⟨_, rfl⟩
 rw [← hw0]
 have hsz : w0.heap.size = w.heap.size + 1 := by rw [hw0]; simp
 have r0 : w0.cell? ⟨w.heap.size, 0, none⟩ = some (.int .i64 0) := by rw [hw0]; simp
 have r1 : w0.cell? ⟨w.heap.size, 1, none⟩ = some (.int .i64 0) := by rw [hw0]; simp
 have z0 : w0.frozen? ⟨w.heap.size, 0, none⟩ = false := by rw [hw0]; simp
 have z1 : w0.frozen? ⟨w.heap.size, 1, none⟩ = false := by rw [hw0]; simp
 have HC0 := Lib.hid (show ∀ i, i < n + 2 → w0.cell? ⟨b, off + i, none⟩ = some (.float .f64 (xs.getD i 0)) from fun i hi => by rw [hw0]; exact HC.out i hi)
 have HB1 := Lib.hid (show Below w.heap.size w w0 by rw [hw0]; exact below_drewN HB0.out _)
 have R0 := Lib.hid r0
 have R1 := Lib.hid r1
 have Z0 := Lib.hid z0
 have Z1 := Lib.hid z1
 have HSZ := Lib.hid hsz
 clear r0 r1 z0 z1 hw0 HB0 HC HK hsz hs ha ha2 hq2
 go_loopw [11, 12] (fun v i wr => ∃ k : Nat, k ≤ n + 1 ∧ i = .int .i64 k ∧ KI.Own wr w0.heap.size v (ints (tchs xs a q k)) ∧ Below w0.heap.size w0 wr) (fun _ i _ => n + 1 - (intOf i).toNat)
 case atStart => exact ⟨0, Nat.zero_le _, rfl, Lk.Own.nil _ _, Below.refl _ _⟩
 case round =>
  obtain ⟨k, hk, rfl, hown, hbl⟩ := hrel
  have HOW := Lib.hid hown
  have HB := Lib.hid hbl
  clear hown hbl
  by_cases hlt : k < n + 1
  ·have HTK := Lib.hid (HT.out wr (fun i hi => (HB.out.cell (p := ⟨b, off + i, none⟩) (by have := HSZ.out; show b < _; omega)).trans (HC0.out i hi)) k (by omega))
   have HNK := Lib.hid (HN.out k)
   have HLK := Lib.hid (HL.out k)
   generalize ints (tchs xs a q k) = L at *
   rcases Bool.eq_false_or_eq_true (tchB xs a q k) with g | g
   ·rw [g] at HTK HNK
    go_wp2_with fail
    refine HTK.out.mono ?_
    rintro e w' ⟨rfl, rfl⟩
    go_wp2_with (at_builtin; go_loud (refine Lk.wpList_app (K := KI) _ rfl _ _ rfl rfl w0.heap.size (wr.heap.size + 1) _ _ L [(k : Int)] rfl rfl (HOW.out.alloc _) (Lk.IsL.lit (K := KI) wr (k : Int) _ (show fits _ by unfold fits; omega) rfl _ rfl) ?c1 ?c2 ?_))
    case c1 => have := HLK.out; simp; omega
    case c2 => have := HB.out.size; simp; omega
    intro v1 w1 hown hgrow _
    have HB2 := Lib.hid (Lk.Own.grow' (HOW.out.alloc (.cells #[.int .i64 k] 3)) (Below.al HB.out _) (by have := HB.out.size; simp; omega) hgrow)
    have HO2 := Lib.hid hown
    clear hown hgrow
    go_wp2
    go_roundw
    case rel => exact ⟨k + 1, by omega, num_i (by omega), by rw [HNK.out]; exact HO2.out, HB2.out⟩
    case measure => simp [intOf]; omega
   ·rw [g] at HTK HNK
    go_wp2_with (go_at_call 263; refine HTK.out.mono ?_; rintro e w' ⟨rfl, rfl⟩)
    go_roundw
    case rel => exact ⟨k + 1, by omega, num_i (by omega), by rw [HNK.out]; simpa using HOW.out, HB.out⟩
    case measure => simp [intOf]; omega
  ·obtain rfl : k = n + 1 := by omega
   have HL' := Lib.hid (HL.out (n + 1))
   rcases Bool.eq_false_or_eq_true (outB xs a q) with ho | ho
   ·have T1 : tLo xs a q = 0 := by unfold tLo; rw [if_pos ho]
    have T2 : tHi xs a q = 0 := by unfold tHi; rw [if_pos ho]
    have T3 : tEr xs a q = 71 := by unfold tEr; rw [if_pos ho]
    have e : ints (tchs xs a q (n + 1)) = [] := by rw [HO.out ho]; rfl
    rw [e] at HOW
    obtain ⟨A, cap2, rfl⟩ : ∃ A cap, u11 = .slice A 0 cap := by
     obtain ⟨⟨A, cap, h, _⟩, _⟩ := HOW.out.isL (by simp)
     exact ⟨A, cap, h⟩
    have r0 := (HB.out.cell (p := ⟨w.heap.size, 0, none⟩) (by have := HSZ.out; show w.heap.size < _; omega)).trans R0.out
    have r1 := (HB.out.cell (p := ⟨w.heap.size, 1, none⟩) (by have := HSZ.out; show w.heap.size < _; omega)).trans R1.out
    have z0 := (HB.out.frozen (p := ⟨w.heap.size, 0, none⟩) (by have := HSZ.out; show w.heap.size < _; omega)).trans Z0.out
    have z1 := (HB.out.frozen (p := ⟨w.heap.size, 1, none⟩) (by have := HSZ.out; show w.heap.size < _; omega)).trans Z1.out
    have TT := Lib.hid (show rchVal (tLo xs a q, tHi xs a q, tEr xs a q) = .tuple #[.agg #[.int .i64 0, .int .i64 0], .int .i64 71] by rw [T1, T2, T3]; rfl)
    clear T1 T2 T3 e ho
    go_wp2
    exact bodyPost_ret (v := .tuple #[.agg #[.int .i64 0, .int .i64 0], .int .i64 71]) (by simp [results, Tryz.results246, go_sem, r0, r1]) rfl ⟨by rw [TT.out], Below.st (Below.st (HB1.out.trans (HB.out.mono HB1.out.size)) (Nat.le_refl _)) (Nat.le_refl _)⟩
   ·have hlo := HSP.out ho
    have T1 : tLo xs a q = loV xs a 0 := by unfold tLo; rw [ho, if_neg (by simp)]
    have T2 : tHi xs a q = hiV xs q n := by rw [HTH.out, ho, if_neg (by simp)]
    have T3 : tEr xs a q = 0 := by unfold tEr; rw [ho, if_neg (by simp)]
    have e : ints (tchs xs a q (n + 1)) = ints (List.range' (loV xs a 0) (hiV xs q n - loV xs a 0 + 1)) := by rw [HI.out ho]
    rw [e] at HOW
    obtain ⟨hlo, hhi, _⟩ := hlo
    generalize loV xs a 0 = lo at *
    generalize hiV xs q n = hi at *
    obtain ⟨m, rfl⟩ : ∃ m, hi = lo + m := ⟨hi - lo, by omega⟩
    rw [show lo + m - lo + 1 = m + 1 by omega] at HOW
    have hlen : (ints (List.range' lo (m + 1))).length = m + 1 := by simp [ints]
    obtain ⟨g, of2, cap2, rfl, hc2, hg, _, hcell2, _⟩ := KI.cells (HOW.out.isL (by rw [hlen]; omega)) (by rw [hlen]; omega)
    rw [hlen] at hcell2 hc2 ⊢
    have q0 := hcell2 0 (by omega)
    have q1 := hcell2 m (by omega)
    have g0 : (ints (List.range' lo (m + 1))).getD 0 0 = (lo : Int) := by simp [ints, List.range'_succ]
    have g1 : (ints (List.range' lo (m + 1))).getD m 0 = ((lo + m : Nat) : Int) := by
     rw [List.getD_eq_getElem?_getD]
     simp [ints]
    rw [g0, Nat.add_zero] at q0
    rw [g1] at q1
    have r0 := (HB.out.cell (p := ⟨w.heap.size, 0, none⟩) (by have := HSZ.out; show w.heap.size < _; omega)).trans R0.out
    have r1 := (HB.out.cell (p := ⟨w.heap.size, 1, none⟩) (by have := HSZ.out; show w.heap.size < _; omega)).trans R1.out
    have z0 := (HB.out.frozen (p := ⟨w.heap.size, 0, none⟩) (by have := HSZ.out; show w.heap.size < _; omega)).trans Z0.out
    have z1 := (HB.out.frozen (p := ⟨w.heap.size, 1, none⟩) (by have := HSZ.out; show w.heap.size < _; omega)).trans Z1.out
    have TT := Lib.hid (show rchVal (tLo xs a q, tHi xs a q, tEr xs a q) = .tuple #[.agg #[.int .i64 lo, .int .i64 ((lo + m : Nat) : Int)], .int .i64 0] by rw [T1, T2, T3]; rfl)
    clear T1 T2 T3 e ho hcell2 hlen g0 g1
    go_wp2
    go_region
    go_wp2
    have p0 : ((wr.setCell ⟨w.heap.size, 0, none⟩ (.int .i64 lo)).setCell ⟨w.heap.size, 1, none⟩ (.int .i64 ((lo : Int) + m))).cell? ⟨w.heap.size, 0, none⟩ = some (.int .i64 lo) := st_other (st_same r0) (by simp)
    have p1 : ((wr.setCell ⟨w.heap.size, 0, none⟩ (.int .i64 lo)).setCell ⟨w.heap.size, 1, none⟩ (.int .i64 ((lo : Int) + m))).cell? ⟨w.heap.size, 1, none⟩ = some (.int .i64 ((lo : Int) + m)) := st_same (st_other r1 (by simp))
    exact bodyPost_ret (v := .tuple #[.agg #[.int .i64 lo, .int .i64 ((lo : Int) + m)], .int .i64 0]) (by simp [results, Tryz.results246, go_sem, p0, p1]) rfl ⟨by rw [TT.out, Int.natCast_add], Below.drew (Below.st (Below.st (HB1.out.trans (HB.out.mono HB1.out.size)) (Nat.le_refl _)) (Nat.le_refl _))⟩
theorem rreach_any (v : Value) (xs : List Nat) (x r : Nat) (h64 : r < 18446744073709551616) (w : World) (h : KF.IsL w w.heap.size v xs) : Calls Tryz.prog 246 #[v, .float .f64 x, .float .f64 r] w fun e w' => e = .returned (rchVal (rch xs x r)) ∧ Below w.heap.size w w' := by
 by_cases hz : chkE xs = 0
 ·rcases hx : nanb x with _ | _
  ·rcases hy : nanb r with _ | _
   ·rcases hl : ltb r 0 with _ | _
    ·rcases es : Ieee.double.sub x r with _ | a
     ·exact rreach_0 v xs x r h64 w h (.inr (.inr (.inr (.inr (.inl es)))))
     ·rcases ea : Ieee.double.add x r with _ | q
      ·exact rreach_0 v xs x r h64 w h (.inr (.inr (.inr (.inr (.inr ea)))))
      ·rw [rch_some xs x r a q hz hx hy hl es ea]
       exact rreach_1 v xs x r a q h64 w h hz hx hy hl es ea
    ·exact rreach_0 v xs x r h64 w h (.inr (.inr (.inr (.inl hl))))
   ·exact rreach_0 v xs x r h64 w h (.inr (.inr (.inl hy)))
  ·exact rreach_0 v xs x r h64 w h (.inr (.inl hx))
 ·exact rreach_0 v xs x r h64 w h (.inl hz)
end Go.Proofs.YtmecohdedghiaaaGreatDoor
