/- Plain mathematics of a deck's parts: by units and in a row; a part's id; how many of each kind. -/
import Derived.Test.YtlgpnjbhmoomfaaDE
namespace Go.Proofs.Ytlgpnjbhmoomfaa

/-- The parts of a unit (its kind, its number, its rows, its columns). -/
def unitF (u : Q4) (i : Nat) : Q4 := ⟨u.a, u.b, ((i / u.d.toNat : Nat) : Int), ((i % u.d.toNat : Nat) : Int)⟩
def unitN (u : Q4) : Nat := u.c.toNat * u.d.toNat
def unitParts (u : Q4) : List Q4 := (List.range (unitN u)).map (unitF u)
noncomputable def plateU (l : List Pl) (i : Nat) : Q4 := ⟨1, i, (l.getD i KP.dflt).rows, (l.getD i KP.dflt).cols⟩
noncomputable def rackU (l : List Rk) (i : Nat) : Q4 := ⟨2, i, (l.getD i KR.dflt).rows, (l.getD i KR.dflt).cols⟩
def laneU (i : Nat) : Q4 := ⟨3, i, 1, 1⟩
noncomputable def unitsL (d : Dk) : List Q4 := (List.range d.pl.length).map (plateU d.pl) ++ (List.range d.rl.length).map (rackU d.rl) ++ (List.range (d.bl.length - 1)).map laneU
def partsU (us : List Q4) : List Q4 := us.flatMap unitParts
noncomputable def partsL (d : Dk) : List Q4 := partsU (unitsL d)
/-- A unit as it may be. -/
def okU (u : Q4) : Prop := (u.a = 1 ∨ u.a = 2 ∨ u.a = 3) ∧ 0 ≤ u.b ∧ u.b ≤ 23 ∧ sizeB u.c u.d = true
theorem okU_pos {u : Q4} (h : okU u) : 1 ≤ u.c.toNat ∧ 1 ≤ u.d.toNat ∧ u.c = (u.c.toNat : Int) ∧ u.d = (u.d.toNat : Int) ∧ u.c * u.d = (unitN u : Int) ∧ 1 ≤ unitN u ∧ unitN u ≤ 1536 := by
  obtain ⟨h1, h2, h3, h4⟩ := size_of h.2.2.2
  obtain ⟨m1, m2⟩ := size_mul h.2.2.2
  have e1 : u.c = (u.c.toNat : Int) := by omega
  have e2 : u.d = (u.d.toNat : Int) := by omega
  have e3 : u.c * u.d = (unitN u : Int) := by
    unfold unitN
    rw [Int.natCast_mul, ← e1, ← e2]
  refine ⟨by omega, by omega, e1, e2, e3, by omega, by omega⟩
theorem unitParts_len (u : Q4) : (unitParts u).length = unitN u := by unfold unitParts; simp
theorem partsU_cons (u : Q4) (us : List Q4) : partsU (u :: us) = unitParts u ++ partsU us := rfl

/-- The part of an id, unit by unit. -/
def partU : List Q4 → Int → Q4 × Int
  | [], _ => (⟨0, 0, 0, 0⟩, 3)
  | u :: us, left => if left < 0 then (⟨0, 0, 0, 0⟩, 3) else if left < u.c * u.d then (⟨u.a, u.b, left / u.d, left % u.d⟩, 0) else partU us (left - u.c * u.d)
/-- The part of an id, in the row of all. -/
def partR (l : List Q4) (id : Int) : Q4 × Int := if id < 0 ∨ (l.length : Int) ≤ id then (⟨0, 0, 0, 0⟩, 3) else (l.getD id.toNat ⟨0, 0, 0, 0⟩, 0)
theorem partU_neg (us : List Q4) (id : Int) (h : id < 0) : partU us id = (⟨0, 0, 0, 0⟩, 3) := by
  cases us with
  | nil => rfl
  | cons u us => rw [partU, if_pos h]
theorem partU_R (us : List Q4) (h : ∀ u ∈ us, okU u) : ∀ id : Int, partU us id = partR (partsU us) id := by
  induction us with
  | nil =>
    intro id
    unfold partU partR partsU
    rw [if_pos (by simp; omega)]
  | cons u us ih =>
    intro id
    obtain ⟨p1, p2, p3, p4, p5, p6, p7⟩ := okU_pos (h u (by simp))
    rw [partU]
    by_cases h0 : id < 0
    · rw [if_pos h0]
      unfold partR
      rw [if_pos (.inl h0)]
    rw [if_neg h0, p5, partsU_cons]
    have hl : (unitParts u ++ partsU us).length = unitN u + (partsU us).length := by rw [List.length_append, unitParts_len]
    by_cases h1 : id < (unitN u : Int)
    · rw [if_pos h1]
      obtain ⟨i, rfl⟩ : ∃ i : Nat, id = (i : Int) := ⟨id.toNat, by omega⟩
      unfold partR
      rw [hl, if_neg (by omega), Int.toNat_natCast, List.getD_eq_getElem?_getD, List.getElem?_append_left (by rw [unitParts_len]; omega)]
      unfold unitParts
      rw [List.getElem?_map, List.getElem?_range (by omega)]
      simp only [Option.map_some, Option.getD_some]
      unfold unitF
      rw [Int.natCast_ediv, Int.natCast_emod, ← p4]
    · rw [if_neg h1, ih (fun u hu => h u (by simp [hu]))]
      unfold partR
      rw [hl]
      by_cases h2 : ((partsU us).length : Int) ≤ id - unitN u
      · rw [if_pos (.inr h2), if_pos (.inr (by omega))]
      · rw [if_neg (by omega), if_neg (by omega)]
        congr 1
        rw [List.getD_eq_getElem?_getD, List.getD_eq_getElem?_getD, List.getElem?_append_right (by rw [unitParts_len]; omega), unitParts_len]
        congr 2
        omega
/-- Lies a part on a unit? -/
def hasU (u p : Q4) : Bool := decide (p.a = u.a ∧ p.b = u.b ∧ 0 ≤ p.c ∧ p.c < u.c ∧ 0 ≤ p.d ∧ p.d < u.d)
/-- A part's id, unit by unit. -/
def idU (p : Q4) : List Q4 → Int → Int × Int
  | [], _ => (0, 3)
  | u :: us, s => if hasU u p = true then (s + p.c * u.d + p.d, 0) else idU p us (s + u.c * u.d)
/-- A part's id, in the row of all. -/
def idR (p : Q4) : List Q4 → Int → Int × Int
  | [], _ => (0, 3)
  | x :: xs, s => if x = p then (s, 0) else idR p xs (s + 1)
theorem idR_skip (p : Q4) (l m : List Q4) (h : ∀ x ∈ l, x ≠ p) : ∀ s, idR p (l ++ m) s = idR p m (s + l.length) := by
  induction l with
  | nil => intro s; simp
  | cons x l ih =>
    intro s
    rw [List.cons_append, idR, if_neg (h x (by simp)), ih (fun y hy => h y (by simp [hy]))]
    congr 1
    rw [List.length_cons]
    omega
theorem idR_hit (p : Q4) (l m : List Q4) (i : Nat) (hi : i < l.length) (he : l.getD i ⟨0, 0, 0, 0⟩ = p) (hn : ∀ j, j < i → l.getD j ⟨0, 0, 0, 0⟩ ≠ p) (s : Int) : idR p (l ++ m) s = (s + i, 0) := by
  have e : l ++ m = l.take i ++ (l.getD i ⟨0, 0, 0, 0⟩ :: (l.drop (i + 1) ++ m)) := by
    rw [← List.cons_append, ← drop_snoc l i _ hi, ← List.append_assoc, List.take_append_drop]
  rw [e, idR_skip, idR, if_pos he, List.length_take, Nat.min_eq_left (by omega)]
  intro x hx
  obtain ⟨j, hj, rfl⟩ := List.mem_iff_getElem.1 hx
  rw [List.length_take] at hj
  have := hn j (by omega)
  rw [List.getD_eq_getElem?_getD, List.getElem?_eq_getElem (by omega)] at this
  simpa using this
theorem unit_at (u : Q4) (i : Nat) (h : i < unitN u) : (unitParts u).getD i ⟨0, 0, 0, 0⟩ = unitF u i := by
  rw [List.getD_eq_getElem?_getD]
  unfold unitParts
  rw [List.getElem?_map, List.getElem?_range h]
  rfl
theorem has_at (u p : Q4) (hu : okU u) (h : hasU u p = true) : ∃ i, i < unitN u ∧ unitF u i = p ∧ (i : Int) = p.c * u.d + p.d ∧ ∀ j, j < i → unitF u j ≠ p := by
  obtain ⟨p1, p2, p3, p4, p5, p6, p7⟩ := okU_pos hu
  unfold hasU at h
  obtain ⟨h1, h2, h3, h4, h5, h6⟩ := of_decide_eq_true h
  obtain ⟨a, b, c, d⟩ := p
  dsimp only at *
  obtain ⟨r, rfl⟩ : ∃ r : Nat, c = (r : Int) := ⟨c.toNat, by omega⟩
  obtain ⟨k, rfl⟩ : ∃ k : Nat, d = (k : Int) := ⟨d.toNat, by omega⟩
  have hk : k < u.d.toNat := by omega
  have hr : r < u.c.toNat := by omega
  have hd : (r * u.d.toNat + k) / u.d.toNat = r := by
    rw [Nat.mul_comm, Nat.mul_add_div (by omega), Nat.div_eq_of_lt hk, Nat.add_zero]
  have hm : (r * u.d.toNat + k) % u.d.toNat = k := by
    rw [Nat.mul_comm, Nat.mul_add_mod, Nat.mod_eq_of_lt hk]
  have e : ((r * u.d.toNat + k : Nat) : Int) = (r : Int) * u.d + (k : Int) := by
    rw [Int.natCast_add, Int.natCast_mul, ← p4]
  refine ⟨r * u.d.toNat + k, ?_, ?_, e, fun j hj hh => ?_⟩
  · unfold unitN
    have : (r + 1) * u.d.toNat ≤ u.c.toNat * u.d.toNat := Nat.mul_le_mul_right _ hr
    rw [Nat.succ_mul] at this
    omega
  · unfold unitF
    rw [hd, hm, h1, h2]
  · unfold unitF at hh
    injection hh with g1 g2 g3 g4
    have g3' : j / u.d.toNat = r := by omega
    have g4' : j % u.d.toNat = k := by omega
    have := Nat.div_add_mod j u.d.toNat
    rw [g3', g4', Nat.mul_comm] at this
    omega
theorem has_no (u p : Q4) (hu : okU u) (h : hasU u p = false) : ∀ x ∈ unitParts u, x ≠ p := by
  obtain ⟨p1, p2, p3, p4, p5, p6, p7⟩ := okU_pos hu
  intro x hx hh
  subst hh
  unfold unitParts at hx
  obtain ⟨i, hi, rfl⟩ := List.mem_map.1 hx
  have hi' := List.mem_range.1 hi
  unfold hasU unitF at h
  rw [decide_eq_false_iff_not] at h
  apply h
  have a1 : i / u.d.toNat < u.c.toNat := (Nat.div_lt_iff_lt_mul (by omega)).2 hi'
  have a2 : i % u.d.toNat < u.d.toNat := Nat.mod_lt _ (by omega)
  generalize i / u.d.toNat = r at *
  generalize i % u.d.toNat = k at *
  exact ⟨rfl, rfl, show (0 : Int) ≤ (r : Int) by omega, show (r : Int) < u.c by omega, show (0 : Int) ≤ (k : Int) by omega, show (k : Int) < u.d by omega⟩
theorem idU_R (p : Q4) (us : List Q4) (h : ∀ u ∈ us, okU u) : ∀ s, idU p us s = idR p (partsU us) s := by
  induction us with
  | nil => intro s; rfl
  | cons u us ih =>
    intro s
    have hu := h u (by simp)
    obtain ⟨p1, p2, p3, p4, p5, p6, p7⟩ := okU_pos hu
    rw [idU, partsU_cons]
    cases hb : hasU u p
    · rw [if_neg (by simp), ih (fun u hu => h u (by simp [hu])), idR_skip p _ _ (has_no u p hu hb), unitParts_len, p5]
    · rw [if_pos rfl]
      obtain ⟨i, i1, i2, i3, i4⟩ := has_at u p hu hb
      rw [idR_hit p _ _ i (by rw [unitParts_len]; exact i1) (by rw [unit_at u i i1]; exact i2) (fun j hj => by rw [unit_at u j (by omega)]; exact i4 j hj), i3]
      congr 1
      omega
/-- How many parts of a kind. -/
def cntK (k : Int) (l : List Q4) : Int := ((l.filter fun p => p.a == k).length : Int)
theorem cnt_append (k : Int) (l m : List Q4) : cntK k (l ++ m) = cntK k l + cntK k m := by
  unfold cntK
  rw [List.filter_append, List.length_append, Int.natCast_add]
theorem cnt_unit (k : Int) (u : Q4) : cntK k (unitParts u) = if u.a = k then (unitN u : Int) else 0 := by
  unfold cntK unitParts
  rw [List.filter_map, List.length_map]
  by_cases h : u.a = k
  · rw [if_pos h, List.filter_eq_self.2 (fun i _ => by simp [unitF, h]), List.length_range]
  · rw [if_neg h, List.filter_eq_nil_iff.2 (fun i _ => by simp [unitF, h])]
    rfl
end Go.Proofs.Ytlgpnjbhmoomfaa
