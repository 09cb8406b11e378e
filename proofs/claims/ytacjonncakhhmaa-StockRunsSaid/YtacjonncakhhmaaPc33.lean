/- Stocks: a right stock stays right. -/
import Derived.Test.YtacjonncakhhmaaPc32
namespace Go.Proofs.Ytacjonncakhhmaa
open Go.RowKit
theorem may_ok {d : Dk} {b' m : Int} {x : Cel.Ce} (ha : d.arms ≤ 8) (h1 : 1 ≤ b') (h2 : b' ≤ d.arms) (h : Cel.chE x m = 0) : Lg.mayB b' ((Cel.chV x m).b - x.b) = true := by
 rw [chV_b h]
 obtain ⟨g1, g2, g3, g4, g5⟩ := ch_ok h
 unfold Cel.Ce.Right at g1
 unfold Lg.mayB
 exact decide_eq_true ⟨h1, by omega, by omega, by omega, g2⟩
theorem chV_r {x : Cel.Ce} {m : Int} (h : Cel.chE x m = 0) : (Cel.chV x m).Right ∧ (Cel.chV x m).a = x.a ∧ (Cel.chV x m).c = x.c + 1 := by
 obtain ⟨g1, g2, g3, g4, g5⟩ := ch_ok h
 unfold Cel.Ce.Right at g1
 unfold Cel.chV
 rw [if_pos h]
 refine ⟨?_, rfl, rfl⟩
 unfold Cel.Ce.Right
 dsimp only
 omega
theorem new_lens {d : Dk} (hz : zchk d = 0) : (newA d).c.length = (newA d).l.length := by have := newA_len d hz; omega
theorem arms_ok {d : Dk} (hz : zchk d = 0) : 1 ≤ d.arms ∧ d.arms ≤ 8 := (dchk_ok d (zchk_d d hz)).arm
/-- A change of a well of a right stock. -/
theorem rg_pt {d : Dk} {a : Ab} {b' m : Int} {k : Nat} (hz : zchk d = 0) (hw : rwB a (newA d) = true) (hk : k < a.c.length) (h1 : 1 ≤ b') (h2 : b' ≤ d.arms) (h : Cel.chE (a.c.getD k ce0) m = 0) :
  rwB (ptAb a b' k (Cel.chV (a.c.getD k ce0) m)) (newA d) = true ∧ Two.sumL (volS (ptAb a b' k (Cel.chV (a.c.getD k ce0) m)).c) = Two.sumL (volS a.c) + m := by
 obtain ⟨r1, r2, r3⟩ := chV_r h
 refine ⟨rw_pt hw (new_lens hz) hk r1 r2 r3 (ch_ok h).2.2.1 (may_ok (arms_ok hz).2 h1 h2 h), ?_⟩
 show Two.sumL (volS (a.c.set k _)) = _
 rw [sum_set _ _ _ hk, chV_b h]
theorem fo_ok {d : Dk} {a : Ab} {id m f : Int} (hd : dchk d = 0) (h : foE d a id m f = 0) : (0 ≤ id ∧ id < wellN d) ∧ Cel.chE (a.c.getD id.toNat ce0) m = 0 ∧ flowB f = true := by
 unfold foE flE at h
 by_cases hP : isP d 1 id = true
 case neg => rw [if_neg hP] at h; cases h
 rw [if_pos hP] at h
 by_cases he : Cel.chE (a.c.getD id.toNat ce0) m = 0
 case neg => rw [if_neg he] at h; exact absurd h he
 rw [if_pos he] at h
 by_cases hf : flowB f = true
 case neg => rw [if_neg hf] at h; cases h
 rw [(isP_eq d hd id).1] at hP
 exact ⟨of_decide_eq_true hP, he, hf⟩
theorem flow_ok {n : Int} (h : flowB n = true) : 0 ≤ n ∧ n ≤ 1152921504606846976 := by
 unfold flowB at h
 rw [Bool.and_eq_true, decide_eq_true_eq, decide_eq_true_eq] at h
 exact h
/-- A right stock behind Fill. -/
theorem rg_fill {d : Dk} {a : Ab} {b' id n : Int} (hr : rgS d a = true) (h1 : 1 ≤ b') (h2 : b' ≤ d.arms) (h : foE d a id (max n 0) (a.inn + n) = 0) : rgS d (foA a b' id.toNat (max n 0) 4 (a.inn + n)) = true := by
 have P := rg_P d a hr
 obtain ⟨h3, h4, h5⟩ := fo_ok (zchk_d d P.z) h
 have hl := newA_len d P.z
 have hw := rw_len P.w
 obtain ⟨q1, q2⟩ := rg_pt P.z P.w (k := id.toNat) (by omega) h1 h2 h4
 have hm := (ch_ok h4).2.1
 refine P_rg d _ ⟨P.z, q1, P.t, P.r, P.st, flow_ok h5, P.o, ?_⟩
 show Two.sumL (volS (ptAb a b' id.toNat _).c) = a.st + (a.inn + n) - a.out
 rw [q2, P.s]
 omega
/-- A right stock behind Waste. -/
theorem rg_waste {d : Dk} {a : Ab} {b' id n : Int} (hr : rgS d a = true) (h1 : 1 ≤ b') (h2 : b' ≤ d.arms) (h : foE d a id (-(max n 0)) (a.out + n) = 0) : rgS d (foA a b' id.toNat (-(max n 0)) 5 (a.out + n)) = true := by
 have P := rg_P d a hr
 obtain ⟨h3, h4, h5⟩ := fo_ok (zchk_d d P.z) h
 have hl := newA_len d P.z
 have hw := rw_len P.w
 obtain ⟨q1, q2⟩ := rg_pt P.z P.w (k := id.toNat) (by omega) h1 h2 h4
 have hm := (ch_ok h4).2.1
 refine P_rg d _ ⟨P.z, q1, P.t, P.r, P.st, P.i, flow_ok h5, ?_⟩
 show Two.sumL (volS (ptAb a b' id.toNat _).c) = a.st + a.inn - (a.out + n)
 rw [q2, P.s]
 omega
/-- Why nothing moves; a stock behind a move. -/
noncomputable def moE (d : Dk) (a : Ab) (x y n : Int) : Int := if isP d 1 x = true ∧ isP d 1 y = true then (if x = y then 1 else Cel.mvE (a.c.getD x.toNat ce0) (a.c.getD y.toNat ce0) n) else 3
def moA (a : Ab) (b' x y n : Int) : Ab := ptAb (ptAb a b' x.toNat (Cel.mvX (a.c.getD x.toNat ce0) (a.c.getD y.toNat ce0) n)) b' y.toNat (Cel.mvY (a.c.getD x.toNat ce0) (a.c.getD y.toNat ce0) n)
theorem mv_ok {x y : Cel.Ce} {n : Int} (h : Cel.mvE x y n = 0) : Cel.chE x (-(max n 0)) = 0 ∧ Cel.chE y (max n 0) = 0 ∧ Cel.mvX x y n = Cel.chV x (-(max n 0)) ∧ Cel.mvY x y n = Cel.chV y (max n 0) := by
 have hx : Cel.mvX x y n = Cel.chV x (-(max n 0)) := by unfold Cel.mvX; rw [if_pos h]
 have hy : Cel.mvY x y n = Cel.chV y (max n 0) := by unfold Cel.mvY; rw [if_pos h]
 unfold Cel.mvE at h
 by_cases h1 : Cel.chE x (-(max n 0)) = 0
 ·rw [if_pos h1] at h
  exact ⟨h1, h, hx, hy⟩
 ·rw [if_neg h1] at h
  exact absurd h h1
theorem mo_ok {d : Dk} {a : Ab} {x y n : Int} (hd : dchk d = 0) (h : moE d a x y n = 0) : (0 ≤ x ∧ x < wellN d) ∧ (0 ≤ y ∧ y < wellN d) ∧ x ≠ y ∧ Cel.mvE (a.c.getD x.toNat ce0) (a.c.getD y.toNat ce0) n = 0 := by
 unfold moE at h
 by_cases hP : isP d 1 x = true ∧ isP d 1 y = true
 case neg => rw [if_neg hP] at h; cases h
 rw [if_pos hP] at h
 by_cases he : x = y
 ·rw [if_pos he] at h; cases h
 rw [if_neg he] at h
 obtain ⟨h1, h2⟩ := hP
 rw [(isP_eq d hd _).1] at h1 h2
 exact ⟨of_decide_eq_true h1, of_decide_eq_true h2, he, h⟩
/-- A right stock behind Move. -/
theorem rg_move {d : Dk} {a : Ab} {b' x y n : Int} (hr : rgS d a = true) (h1 : 1 ≤ b') (h2 : b' ≤ d.arms) (h : moE d a x y n = 0) : rgS d (moA a b' x y n) = true := by
 have P := rg_P d a hr
 obtain ⟨h3, h4, h5, h6⟩ := mo_ok (zchk_d d P.z) h
 obtain ⟨e1, e2, e3, e4⟩ := mv_ok h6
 have hl := newA_len d P.z
 have hw := rw_len P.w
 obtain ⟨q1, q2⟩ := rg_pt P.z P.w (k := x.toNat) (by omega) h1 h2 e1
 have hg : (ptAb a b' x.toNat (Cel.chV (a.c.getD x.toNat ce0) (-(max n 0)))).c.getD y.toNat ce0 = a.c.getD y.toNat ce0 := gset_ne _ _ _ _ _ (by omega)
 rw [← hg] at e2
 obtain ⟨q3, q4⟩ := rg_pt P.z q1 (k := y.toNat) (by show y.toNat < (a.c.set _ _).length; rw [List.length_set]; omega) h1 h2 e2
 rw [hg] at q3 q4
 unfold moA
 rw [e3, e4]
 refine P_rg d _ ⟨P.z, q3, P.t, P.r, P.st, P.i, P.o, ?_⟩
 rw [q4, q2, P.s]
 show _ = a.st + a.inn - a.out
 omega
/-- What makes a list of tips right. -/
theorem rt_iff (xs : List (Int × Int)) (arms : Int) : rtB xs arms = true ↔ ∀ i, i < xs.length → Tp.ofV (xs.getD i (0, 0)).1 (xs.getD i (0, 0)).2 ≠ 0 ∧ (xs.getD i (0, 0)).2 ≤ arms ∧ ∀ j, j < i → ¬ ((xs.getD j (0, 0)).1 = 2 ∧ (xs.getD j (0, 0)).2 = (xs.getD i (0, 0)).2) := by
 have hb : ∀ i, i < xs.length → ∀ b, (hbB xs i b = false ↔ ∀ j, j < i → ¬ ((xs.getD j (0, 0)).1 = 2 ∧ (xs.getD j (0, 0)).2 = b)) := by
  intro i hi b
  induction i with
  | zero => exact ⟨fun _ j hj => absurd hj (by omega), fun _ => by unfold hbB; simp⟩
  | succ i ih =>
   rw [hb_snoc xs i (by omega), Bool.or_eq_false_iff, ih (by omega)]
   constructor
   ·rintro ⟨h1, h2⟩ j hj ⟨g1, g2⟩
    rcases Nat.lt_succ_iff_lt_or_eq.1 hj with h | rfl
    ·exact h1 j h ⟨g1, g2⟩
    ·rw [g1, g2] at h2; simp at h2
   ·intro h
    refine ⟨fun j hj => h j (by omega), ?_⟩
    have := h i (by omega)
    by_cases h1 : (xs.getD i (0, 0)).1 = 2
    ·rw [h1]
     by_cases h2 : (xs.getD i (0, 0)).2 = b
     ·exact absurd ⟨h1, h2⟩ this
     ·simp only [beq_self_eq_true, Bool.true_and]
      exact beq_eq_false_iff_ne.2 h2
    ·rw [beq_eq_false_iff_ne.2 h1, Bool.false_and]
 constructor
 ·intro h i hi
  unfold rtB at h
  rw [List.all_eq_true] at h
  have := h i (List.mem_range.2 hi)
  unfold okT at this
  rw [Bool.and_eq_true, Bool.and_eq_true, Bool.not_eq_true', Bool.not_eq_true', decide_eq_true_eq, hb i hi] at this
  exact ⟨by simpa using this.1.1, this.1.2, this.2⟩
 ·intro h
  refine rt_yes (fun i hi => ?_)
  obtain ⟨h1, h2, h3⟩ := h i hi
  unfold okT
  rw [Bool.and_eq_true, Bool.and_eq_true, Bool.not_eq_true', Bool.not_eq_true', decide_eq_true_eq, hb i hi]
  exact ⟨⟨by simpa using h1, h2⟩, h3⟩
theorem ofV_2 (s b : Int) : (Tp.ofV s b == 2) = true ↔ s = 2 ∧ 1 ≤ b ∧ b ≤ 8 := by
 unfold Tp.ofV
 split
 ·rename_i h
  constructor
  ·intro h2; have := (beq_iff_eq).1 h2; omega
  ·intro h2; omega
 ·split
  ·rename_i h; exact ⟨fun _ => h, fun _ => rfl⟩
  ·rename_i h
   constructor
   ·intro h2; exact absurd h2 (by decide)
   ·intro h2; exact absurd h2 h
theorem hd_no {a : Ab} {b' : Int} (h1 : 1 ≤ b') (h8 : b' ≤ 8) (h : (hdF a b').2 ≠ true) : ∀ j, j < a.t.length → ¬ ((a.t.getD j (0, 0)).1 = 2 ∧ (a.t.getD j (0, 0)).2 = b') := by
 intro j hj ⟨g1, g2⟩
 apply h
 unfold hdF Tp.fstV
 cases e : (List.range a.t.length).find? (Tp.hdP a.t b' 0) with
 | some i => rfl
 | none =>
  exfalso
  rw [List.find?_range_eq_none] at e
  have := e j hj
  unfold Tp.hdP at this
  rw [(ofV_2 _ _).2 ⟨g1, by omega, by omega⟩, g2] at this
  simp at this
theorem hd_yes {a : Ab} {b' : Int} (h : (hdF a b').2 = true) : ∃ k : Nat, (hdF a b').1 = k ∧ k < a.t.length ∧ (a.t.getD k (0, 0)).1 = 2 ∧ (a.t.getD k (0, 0)).2 = b' := by
 unfold hdF Tp.fstV at h ⊢
 cases e : (List.range a.t.length).find? (Tp.hdP a.t b' 0) with
 | none => rw [e] at h; cases h
 | some i =>
  have hp := List.find?_some e
  unfold Tp.hdP at hp
  rw [Bool.and_eq_true, Bool.and_eq_true, ofV_2] at hp
  exact ⟨i, rfl, List.mem_range.1 (List.mem_of_find?_eq_some e), hp.2.1.1, by simpa using hp.2.2⟩
theorem ofV_nz {s b : Int} (h : Tp.ofV s b ≠ 0) : ((s = 1 ∨ s = 3) ∧ b = 0) ∨ (s = 2 ∧ 1 ≤ b ∧ b ≤ 8) := by
 unfold Tp.ofV at h
 split at h
 ·left; assumption
 ·split at h
  ·right; assumption
  ·exact absurd rfl h
theorem ta_ok {d : Dk} {a : Ab} {b' id : Int} (hd : dchk d = 0) (h : taE d a b' id = 0) : (wellN d ≤ id ∧ id < wellN d + tipN d) ∧ (hdF a b').2 ≠ true ∧ Tp.tkE (a.t.getD (tiK a id) (0, 0)).1 (a.t.getD (tiK a id) (0, 0)).2 b' = 0 := by
 unfold taE at h
 by_cases hP : isP d 2 id = true
 case neg => rw [if_neg hP] at h; cases h
 rw [if_pos hP] at h
 by_cases hf : (hdF a b').2 = true
 ·rw [if_pos hf] at h; cases h
 rw [if_neg hf] at h
 rw [(isP_eq d hd id).2] at hP
 exact ⟨of_decide_eq_true hP, hf, h⟩
/-- A right stock behind Take. -/
theorem rg_take {d : Dk} {a : Ab} {b' id : Int} (hr : rgS d a = true) (h1 : 1 ≤ b') (h2 : b' ≤ d.arms) (h : taE d a b' id = 0) : rgS d (taA a b' id) = true := by
 have P := rg_P d a hr
 obtain ⟨h3, h4, h5⟩ := ta_ok (zchk_d d P.z) h
 have hl := newA_len d P.z
 have hw := rw_len P.w
 have ht := P.t
 have h8 := (arms_ok P.z).2
 have hk : tiK a id < a.t.length := by unfold tiK; omega
 obtain ⟨k, ek⟩ : ∃ k, tiK a id = k := ⟨_, rfl⟩
 have hv : Tp.tkV (a.t.getD (tiK a id) (0, 0)).1 (a.t.getD (tiK a id) (0, 0)).2 b' = (2, b') := by unfold Tp.tkV; rw [if_pos h5]
 refine P_rg d _ ⟨P.z, P.w, by show (a.t.set _ _).length = _; rw [List.length_set]; exact ht, ?_, P.st, P.i, P.o, P.s⟩
 have hR := (rt_iff _ _).1 P.r
 have hN := hd_no h1 (by omega) h4
 show rtB (a.t.set (tiK a id) (Tp.tkV (a.t.getD (tiK a id) (0, 0)).1 (a.t.getD (tiK a id) (0, 0)).2 b')) d.arms = true
 rw [hv]
 rw [ek] at hk ⊢
 refine (rt_iff _ _).2 (fun i hi => ?_)
 rw [List.length_set] at hi
 obtain ⟨r1, r2, r3⟩ := hR i hi
 by_cases hik : k = i
 ·subst hik
  rw [gset_eq _ _ _ _ hk]
  refine ⟨?_, h2, fun j hj => ?_⟩
  ·have := (ofV_2 2 b').2 ⟨rfl, h1, by omega⟩
   intro h0
   rw [h0] at this
   cases this
  ·rw [gset_ne _ _ _ _ _ (by omega)]
   exact hN j (by omega)
 ·rw [gset_ne _ _ _ _ _ hik]
  refine ⟨r1, r2, fun j hj => ?_⟩
  by_cases hjk : k = j
  ·subst hjk
   rw [gset_eq _ _ _ _ hk]
   rintro ⟨_, g⟩
   dsimp only at g
   have := hN i hi
   rcases ofV_nz r1 with q | q
   ·omega
   ·exact this ⟨q.1, g.symm⟩
  ·rw [gset_ne _ _ _ _ _ hjk]
   exact r3 j hj
theorem dr_ok {a : Ab} {b' : Int} (h : drE a b' = 0) : (hdF a b').2 = true ∧ Tp.dpE (a.t.getD (hdF a b').1.toNat (0, 0)).1 (a.t.getD (hdF a b').1.toNat (0, 0)).2 b' = 0 := by
 unfold drE at h
 by_cases hf : (hdF a b').2 = true
 ·rw [if_pos hf] at h; exact ⟨hf, h⟩
 ·rw [if_neg hf] at h; cases h
/-- A right stock behind Drop. -/
theorem rg_drop {d : Dk} {a : Ab} {b' : Int} (hr : rgS d a = true) (h : drE a b' = 0) : rgS d (drA a b') = true := by
 have P := rg_P d a hr
 obtain ⟨h4, h5⟩ := dr_ok h
 obtain ⟨k, ek, hk, _, _⟩ := hd_yes h4
 have ht := P.t
 have h0 := (arms_ok P.z).1
 have e2 : (hdF a b').1.toNat = k := by omega
 have hv : Tp.dpV (a.t.getD (hdF a b').1.toNat (0, 0)).1 (a.t.getD (hdF a b').1.toNat (0, 0)).2 b' = (3, 0) := by unfold Tp.dpV; rw [if_pos h5]
 refine P_rg d _ ⟨P.z, P.w, by show (a.t.set _ _).length = _; rw [List.length_set]; exact ht, ?_, P.st, P.i, P.o, P.s⟩
 have hR := (rt_iff _ _).1 P.r
 show rtB (a.t.set (hdF a b').1.toNat (Tp.dpV (a.t.getD (hdF a b').1.toNat (0, 0)).1 (a.t.getD (hdF a b').1.toNat (0, 0)).2 b')) d.arms = true
 rw [hv, e2]
 refine (rt_iff _ _).2 (fun i hi => ?_)
 rw [List.length_set] at hi
 obtain ⟨r1, r2, r3⟩ := hR i hi
 by_cases hik : k = i
 ·subst hik
  rw [gset_eq _ _ _ _ hk]
  refine ⟨by decide, by show (0 : Int) ≤ _; omega, fun j hj => ?_⟩
  rw [gset_ne _ _ _ _ _ (by omega)]
  rintro ⟨g1, g2⟩
  dsimp only at g2
  rcases ofV_nz (hR j (by omega)).1 with q | q <;> omega
 ·rw [gset_ne _ _ _ _ _ hik]
  refine ⟨r1, r2, fun j hj => ?_⟩
  by_cases hjk : k = j
  ·subst hjk
   rw [gset_eq _ _ _ _ hk]
   rintro ⟨g, _⟩
   dsimp only at g
   omega
  ·rw [gset_ne _ _ _ _ _ hjk]
   exact r3 j hj
end Go.Proofs.Ytacjonncakhhmaa
