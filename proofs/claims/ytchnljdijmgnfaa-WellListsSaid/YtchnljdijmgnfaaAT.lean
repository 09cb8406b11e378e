/- A span put behind joined spans. -/
import Derived.Test.YtchnljdijmgnfaaLO
import Derived.Test.YtchnljdijmgnfaaSE
import Derived.Deep.Cut
namespace Go.Proofs.Ytchnljdijmgnfaa
open Go.RowKit
theorem IsL.litH (w : World) (H : Nat) (x y : Int) (hx : fits x) (hy : fits y) (e : w.heap.size = H) : IsL (w.alloc (.cells #[.int .i64 x, .int .i64 y] 23)) (H + 1) (.slice (some ⟨H, 0, none⟩) 1 1) [(x, y)] := by
  subst e
  exact IsL.lit w x y hx hy
def attL (l : List (Int × Int)) (s : Int × Int) : List (Int × Int) :=
  if l.length = 0 then l ++ [s] else if s.1 ≤ (l.getD (l.length - 1) (0, 0)).2 + 1 then l.set (l.length - 1) (hullV (l.getD (l.length - 1) (0, 0)) s) else l ++ [s]
theorem hullV_fits {p q : Int × Int} (hp : fits p.1 ∧ fits p.2) (hq : fits q.1 ∧ fits q.2) : fits (hullV p q).1 ∧ fits (hullV p q).2 := by
  unfold hullV
  unfold fits at *
  split
  · split
    · decide
    · exact hq
  · split
    · exact hp
    · simp only
      omega
def Att (w : World) (base : Nat) (v : Value) (r : List (Int × Int)) (e : Ending) (w' : World) : Prop :=
  ∃ v', e = .returned v' ∧ Own w' base v' r ∧ w.grownBy w' v.ownBlock ∧ (v'.ownBlock = v.ownBlock ∨ ∃ b, w.heap.size ≤ b ∧ v'.ownBlock = some b)
theorem grown_drewN {w w' : World} {row : Option Nat} (h : w.grownBy w' row) (n : Nat) : w.grownBy (w'.drewN n) row := ⟨h.os, h.tape, h.output, h.size, h.block⟩
theorem grown_alloc {w w' : World} {row : Option Nat} (h : w.grownBy w' row) (o : Obj) : w.grownBy (w'.alloc o) row := h.trans (World.grownBy_alloc w' o row)
theorem grown_below {w w' w'' : World} {row : Option Nat} (h : w.grownBy w' row) (k : Below w'.heap.size w' w'') : w.grownBy w'' row := h.trans ⟨k.os, k.tape, k.output, k.size, fun i hi _ => k.block i hi⟩
theorem grown_set {w w' : World} {g j : Nat} {u : Value} (h : w.grownBy w' (some g)) : w.grownBy (w'.setCell ⟨g, j, none⟩ u) (some g) :=
  h.trans ⟨rfl, rfl, rfl, by simp [World.setCell], fun k _ hne => Below.heap_setCell _ _ _ _ (fun e => hne (by rw [e]))⟩
theorem Att.of {w w0 w' : World} {base : Nat} {v v' : Value} {r : List (Int × Int)} (h : Own w' base v' r) (hg0 : w.grownBy w0 v.ownBlock) (hg : w0.grownBy w' v.ownBlock) {H : Nat} (hv : v'.ownBlock = v.ownBlock ∨ v'.ownBlock = some H) (hH : w.heap.size ≤ H) : Att w base v r (.returned v') w' :=
  ⟨v', rfl, h, hg0.trans hg, hv.imp id fun e => ⟨_, hH, e⟩⟩

theorem att_set {g k cap base n : Nat} {xs : List (Int × Int)} {w w1 : World} {o : Obj} {p : Int × Int} (h : Own w base (.slice (some ⟨g, 0, none⟩) (k + 1) cap) xs) (hk : xs.length = k + 1) (hp : fits p.1 ∧ fits p.2)
    (hb1 : Below ((w.alloc o).drewN n).heap.size ((w.alloc o).drewN n) w1) :
    Att w base (.slice (some ⟨g, 0, none⟩) (k + 1) cap) (xs.set k p) (.returned (.slice (some ⟨g, 0, none⟩) (k + 1) cap)) ((w1.setCell ⟨g, k * 2, none⟩ (.int .i64 p.1)).setCell ⟨g, k * 2 + 1, none⟩ (.int .i64 p.2)) := by
  have h1 : Own w1 base (.slice (some ⟨g, 0, none⟩) (k + 1) cap) xs := ((h.alloc o).drewN n).below hb1
  rw [← hk] at h1 ⊢
  have h2 := h1.set k (by omega) p hp
  have e : (xs.set k p).length = xs.length := List.length_set
  rw [e] at h2
  exact ⟨_, rfl, h2, grown_set (grown_set (grown_below (grown_drewN (grown_alloc (World.grownBy.refl _ _) o) n) hb1)), .inl rfl⟩

set_option maxHeartbeats 1000000 in
theorem attach_new (v : Value) (base : Nat) (s : Int × Int) (hs : fits s.1 ∧ fits s.2) (w : World) (h : Own w base v []) (hb : base ≤ w.heap.size) :
    Calls Try.prog 56 #[v, .agg #[.int .i64 s.1, .int .i64 s.2]] w (Att w base v [s]) := by
  obtain ⟨x, y⟩ := s
  have hv : ∃ A cap, v = .slice A 0 cap := by
    rcases h.1.2 with ⟨rfl, _⟩ | ⟨g, cap, cur, rfl, _⟩
    · exact ⟨_, _, rfl⟩
    · exact ⟨_, _, rfl⟩
  obtain ⟨A, cap, rfl⟩ := hv
  have H := Lib.hid h
  have HS := Lib.hid hs
  have HB := Lib.hid hb
  clear h hs hb
  go_enter Try.func56, Try.ntmps56
  go_upto_region 2 with fail
  generalize Value.slice A 0 cap = v at *
  go_wp2_with (at_builtin; refine wpList_app _ rfl _ _ rfl base (w.heap.size + 1 + 1) _ _ [] [(x, y)] rfl rfl ((H.out.alloc _).alloc _) (IsL.litH _ (w.heap.size + 1) x y HS.out.1 HS.out.2 (by simp)) ?c1 ?c2 ?_)
  case c2 => have := HB.out; simp; omega
  intro v1 w1 hown1 hg1 hv1
  go_wp2
  go_ret
  exact Att.of (v' := v1) hown1 (grown_alloc (grown_alloc (World.grownBy.refl _ _) _) _) hg1 hv1 (by omega)
set_option maxHeartbeats 1000000 in
theorem attach_far (g k cap : Nat) (base : Nat) (xs : List (Int × Int)) (hk : xs.length = k + 1) (s : Int × Int) (hs : fits s.1 ∧ fits s.2) (w : World) (h : Own w base (.slice (some ⟨g, 0, none⟩) (k + 1) cap) xs) (hb : base ≤ w.heap.size) (hg : g < w.heap.size) (hl : xs.length ≤ 1000)
    (hc1 : w.cell? ⟨g, k * 2, none⟩ = some (.int .i64 (xs.getD k (0, 0)).1)) (hc2 : w.cell? ⟨g, k * 2 + 1, none⟩ = some (.int .i64 (xs.getD k (0, 0)).2)) (hfar : ¬ s.1 ≤ (xs.getD k (0, 0)).2 + 1) :
    Calls Try.prog 56 #[.slice (some ⟨g, 0, none⟩) (k + 1) cap, .agg #[.int .i64 s.1, .int .i64 s.2]] w (Att w base (.slice (some ⟨g, 0, none⟩) (k + 1) cap) (xs ++ [s])) := by
  have hft := getD_fits h.2 k
  obtain ⟨x, y⟩ := s
  generalize xs.getD k (0, 0) = t at *
  obtain ⟨t1, t2⟩ := t
  simp only at *
  have H := Lib.hid h
  have HS := Lib.hid hs
  have HB := Lib.hid hb
  have HK := Lib.hid hk
  have hd1 : decide (x ≤ t2) = false := by simp; omega
  have hx2 : IntKind.i64.wrap (x - 1) = x - 1 := by (simp only [IntKind.wrap_i64]; unfold fits at hs hft; omega)
  have hd2 : ((x - 1) == t2) = false := by (rw [beq_eq_false_iff_ne]; omega)
  have i1 : (k : Int) ≤ 1000 := by omega
  have i2 : (0 : Int) ≤ (k : Int) := by omega
  clear h hs hb hft hk hl
  go_enter Try.func56, Try.ntmps56
  go_wp2
  go_quiet (fail)
  go_upto_region 7 with fail
  generalize Value.slice (some { block := g, off := 0, spot := none }) (k + 1) cap = v at *
  go_wp2_with (at_builtin; go_loud (refine wpList_app _ rfl _ _ rfl base (w.heap.size + 1 + 1) _ _ xs [(x, y)] rfl rfl (((H.out.alloc _).alloc _).drewN nq) ((IsL.litH _ (w.heap.size + 1) x y HS.out.1 HS.out.2 (by simp)).drewN nq) ?c1 ?c2 ?_))
  case c1 => have := HK.out; simp; omega
  case c2 => have := HB.out; simp; omega
  intro v1 w1 hown1 hg1 hv1
  go_wp2
  go_ret
  exact Att.of (v' := v1) hown1 (grown_drewN (grown_alloc (grown_alloc (World.grownBy.refl _ _) _) _) nq) hg1 hv1 (by omega)
set_option maxHeartbeats 1000000 in
theorem attach_near (g k cap : Nat) (base : Nat) (xs : List (Int × Int)) (hk : xs.length = k + 1) (s : Int × Int) (hs : fits s.1 ∧ fits s.2) (w : World) (h : Own w base (.slice (some ⟨g, 0, none⟩) (k + 1) cap) xs) (hb : base ≤ w.heap.size) (hg : g < w.heap.size) (hl : xs.length ≤ 1000)
    (hfz : ∀ j, w.frozen? ⟨g, j, none⟩ = false) (hc1 : w.cell? ⟨g, k * 2, none⟩ = some (.int .i64 (xs.getD k (0, 0)).1)) (hc2 : w.cell? ⟨g, k * 2 + 1, none⟩ = some (.int .i64 (xs.getD k (0, 0)).2)) (hnear : s.1 ≤ (xs.getD k (0, 0)).2 + 1) :
    Calls Try.prog 56 #[.slice (some ⟨g, 0, none⟩) (k + 1) cap, .agg #[.int .i64 s.1, .int .i64 s.2]] w (Att w base (.slice (some ⟨g, 0, none⟩) (k + 1) cap) (xs.set k (hullV (xs.getD k (0, 0)) s))) := by
  have hft := getD_fits h.2 k
  obtain ⟨x, y⟩ := s
  generalize xs.getD k (0, 0) = t at *
  obtain ⟨t1, t2⟩ := t
  simp only at *
  have H := Lib.hid h
  have HS := Lib.hid hs
  have HB := Lib.hid hb
  have HK := Lib.hid hk
  have HF := Lib.hid hft
  have hfz1 := hfz (k * 2)
  have hfz2 := hfz (k * 2 + 1)
  have HHU := Lib.hid (hull_any (t1, t2) (x, y))
  have HFH := Lib.hid (hullV_fits (p := (t1, t2)) (q := (x, y)) hft hs)
  have i1 : (k : Int) ≤ 1000 := by omega
  have i2 : (0 : Int) ≤ (k : Int) := by omega
  by_cases hd : x ≤ t2
  · have hd1 : decide (x ≤ t2) = true := by simpa using hd
    clear h hs hb hft hk hl hd hnear hfz
    go_enter Try.func56, Try.ntmps56
    go_wp2
    go_quiet (fail)
    go_wp2
    go_region_with (go_at_call 10; refine (HHU.out _).mono ?_; rintro e w1 ⟨rfl, hb1⟩; have q1 : w1.cell? ⟨g, k * 2, none⟩ = some (.int .i64 t1) := (by (rw [hb1.cell (p := ⟨g, k * 2, none⟩) (by simp <;> omega)]; go_simp)); have q2 : w1.cell? ⟨g, k * 2 + 1, none⟩ = some (.int .i64 t2) := (by (rw [hb1.cell (p := ⟨g, k * 2 + 1, none⟩) (by simp <;> omega)]; go_simp)); have q3 : w1.frozen? ⟨g, k * 2, none⟩ = false := (by (rw [hb1.frozen (p := ⟨g, k * 2, none⟩) (by simp <;> omega)]; go_simp)); have q4 : w1.frozen? ⟨g, k * 2 + 1, none⟩ = false := (by (rw [hb1.frozen (p := ⟨g, k * 2 + 1, none⟩) (by simp <;> omega)]; go_simp)); have HB1 := Lib.hid hb1; clear hb1)
    all_goals
      go_wp2
      go_ret
      exact att_set H.out HK.out HFH.out HB1.out
  · have hd1 : decide (x ≤ t2) = false := by simpa using hd
    have hx2 : IntKind.i64.wrap (x - 1) = x - 1 := by (simp only [IntKind.wrap_i64]; unfold fits at hs hft; omega)
    have hd2 : ((x - 1) == t2) = true := by (rw [beq_iff_eq]; omega)
    clear h hs hb hft hk hl hd hnear hfz
    go_enter Try.func56, Try.ntmps56
    go_wp2
    go_quiet (fail)
    go_wp2
    go_region_with (go_at_call 10; refine (HHU.out _).mono ?_; rintro e w1 ⟨rfl, hb1⟩; have q1 : w1.cell? ⟨g, k * 2, none⟩ = some (.int .i64 t1) := (by (rw [hb1.cell (p := ⟨g, k * 2, none⟩) (by simp <;> omega)]; go_simp)); have q2 : w1.cell? ⟨g, k * 2 + 1, none⟩ = some (.int .i64 t2) := (by (rw [hb1.cell (p := ⟨g, k * 2 + 1, none⟩) (by simp <;> omega)]; go_simp)); have q3 : w1.frozen? ⟨g, k * 2, none⟩ = false := (by (rw [hb1.frozen (p := ⟨g, k * 2, none⟩) (by simp <;> omega)]; go_simp)); have q4 : w1.frozen? ⟨g, k * 2 + 1, none⟩ = false := (by (rw [hb1.frozen (p := ⟨g, k * 2 + 1, none⟩) (by simp <;> omega)]; go_simp)); have HB1 := Lib.hid hb1; clear hb1)
    all_goals
      go_wp2
      go_ret
      exact att_set H.out HK.out HFH.out HB1.out
theorem attL_nil (s : Int × Int) : attL [] s = [s] := rfl
theorem attach_any (v : Value) (base : Nat) (xs : List (Int × Int)) (s : Int × Int) (hs : fits s.1 ∧ fits s.2) (w : World) (h : Own w base v xs) (hb : base ≤ w.heap.size) (hl : xs.length ≤ 1000) :
    Calls Try.prog 56 #[v, .agg #[.int .i64 s.1, .int .i64 s.2]] w (Att w base v (attL xs s)) := by
  by_cases h0 : xs.length = 0
  · obtain rfl := List.eq_nil_of_length_eq_zero h0
    exact attach_new v base s hs w h hb
  · obtain ⟨k, hk⟩ : ∃ k, xs.length = k + 1 := ⟨xs.length - 1, by omega⟩
    obtain ⟨g, cap, rfl, hg1, hg2⟩ := h.1.form (by omega)
    have hc := h.1.cellAt (k * 2) (by omega)
    have hd := h.1.cellAt (k * 2 + 1) (by omega)
    have hfz := h.1.frozenAt
    have hp := pvs_at xs k (by omega)
    rw [hp.1] at hc
    rw [hp.2] at hd
    rw [hk] at h ⊢
    by_cases hn : s.1 ≤ (xs.getD k (0, 0)).2 + 1
    · have e : attL xs s = xs.set k (hullV (xs.getD k (0, 0)) s) := by
        unfold attL
        rw [if_neg h0, show xs.length - 1 = k by omega, if_pos hn]
      rw [e]
      exact attach_near g k cap base xs hk s hs w h hb hg2 hl hfz hc hd hn
    · have e : attL xs s = xs ++ [s] := by
        unfold attL
        rw [if_neg h0, show xs.length - 1 = k by omega, if_neg hn]
      rw [e]
      exact attach_far g k cap base xs hk s hs w h hb hg2 hl hc hd hn
end Go.Proofs.Ytchnljdijmgnfaa
