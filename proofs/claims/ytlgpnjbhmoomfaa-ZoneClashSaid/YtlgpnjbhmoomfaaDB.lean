/- Whether a plate may be: what the program and the reference answer. -/
import Derived.Test.YtlgpnjbhmoomfaaDA
namespace Go.Proofs.Ytlgpnjbhmoomfaa
open Go.RowKit

def okN (cap n : Int) : Bool := decide (0 ≤ n ∧ n ≤ cap)
def plateB (q : Pl) : Bool := sizeB q.rows q.cols && decide (1 ≤ q.cap ∧ q.cap ≤ 1099511627776 ∧ (q.st.length : Int) ≤ q.rows * q.cols) && q.st.all (okN q.cap)
/-- A plate's value. -/
abbrev Pl.v (q : Pl) : Value := .agg #[.int .i64 q.rows, .int .i64 q.cols, .float .f64 q.x, .float .f64 q.p, .float .f64 q.r, .int .i64 q.cap, .slice q.sA q.sn q.sc]
theorem plate_no1 (q : Pl) (h : sizeB q.rows q.cols = false) : plateB q = false := by unfold plateB; rw [h]; rfl
theorem plate_no2 (q : Pl) (h : ¬ (1 ≤ q.cap ∧ q.cap ≤ 1099511627776 ∧ (q.st.length : Int) ≤ q.rows * q.cols)) : plateB q = false := by unfold plateB; rw [decide_eq_false h]; simp
theorem plate_is (q : Pl) (h : sizeB q.rows q.cols = true) (h2 : 1 ≤ q.cap ∧ q.cap ≤ 1099511627776 ∧ (q.st.length : Int) ≤ q.rows * q.cols) : plateB q = q.st.all (okN q.cap) := by unfold plateB; rw [h, decide_eq_true h2]; simp
theorem all_no (l : List Int) (f : Int → Bool) (k : Nat) (h : k < l.length) (hf : f (l.getD k 0) = false) : l.all f = false := by
  rw [← Bool.not_eq_true, List.all_eq_true]
  intro hh
  have := hh _ (getD_mem' l k 0 h)
  rw [hf] at this
  cases this
theorem all_yes (l : List Int) (f : Int → Bool) (h : ∀ i, i < l.length → f (l.getD i 0) = true) : l.all f = true := by
  rw [List.all_eq_true]
  intro x hx
  obtain ⟨i, hi, rfl⟩ := List.mem_iff_getElem.1 hx
  have := h i hi
  rw [List.getD_eq_getElem?_getD, List.getElem?_eq_getElem hi] at this
  exact this

set_option maxRecDepth 100000 in
set_option maxHeartbeats 4000000 in
theorem rightPlate_any (q : Pl) (w : World) (hs : KI.IsL w w.heap.size (.slice q.sA q.sn q.sc) q.st) (hok : KP.ok q) : Calls Try.prog 80 #[q.v] w fun e w' => e = .returned (.bool (plateB q)) ∧ Below w.heap.size w w' := by
  have N1 := Lib.hid (plate_no1 q)
  have N2 := Lib.hid (plate_no2 q)
  have N3 := Lib.hid (plate_is q)
  have hn := hs.len
  have hl := hs.2.2
  have HCL := Lib.hid (fun h0 : 0 < q.st.length => KI.cells hs h0)
  obtain ⟨_, _, _, _, _, hcap⟩ := hok
  obtain ⟨B, hB⟩ : ∃ B, B = plateB q := ⟨_, rfl⟩
  rw [← hB] at N1 N2 N3 ⊢
  clear hB
  obtain ⟨rows, cols, x, p, r, cap, sA, sn, sc, st⟩ := q
  dsimp only at *
  subst hn
  clear hs
  unfold fits at hcap
  rcases Bool.eq_false_or_eq_true (sizeB rows cols) with h1 | h1
  · obtain ⟨m1, m2⟩ := size_mul h1
    by_cases hc : 1 ≤ cap ∧ cap ≤ 1099511627776 ∧ (st.length : Int) ≤ rows * cols
    · have hB := N3.out h1 hc
      obtain ⟨c1, c2, c3⟩ := hc
      have HB := Lib.hid hB
      have HN := Lib.hid (all_no st (okN cap))
      have HY := Lib.hid (all_yes st (okN cap))
      clear N1 N2 N3 hB
      go_enter Try.func80, Try.ntmps80
      go_wp2_with fail
      refine (rightSize_any _ _ _).mono ?_
      rintro e w' ⟨rfl, rfl⟩
      go_wp2
      go_loop [35] (fun i => ∃ k : Nat, k ≤ st.length ∧ i = .int .i64 k ∧ ∀ i, i < k → okN cap (st.getD i 0) = true) (fun i => st.length - (intOf i).toNat)
      case atStart => exact ⟨0, Nat.zero_le _, rfl, fun i hi => by omega⟩
      case round =>
        obtain ⟨k, hk, rfl, hall⟩ := hrel
        have HL := Lib.hid hall
        clear hall
        by_cases hlt : k < st.length
        · obtain ⟨b, off, cp, hv, hc2, hbB, _, hcell, _⟩ := HCL.out (by omega)
          injection hv with e1 e2 e3
          subst e1 e3
          have hx := hcell k hlt
          have HN' := Lib.hid (HN.out k hlt)
          have HLS := Lib.hid (show ∀ (h : okN cap (st.getD k 0) = true) (i : Nat), i < k + 1 → okN cap (st.getD i 0) = true from fun h i hi => by
            by_cases e : i = k
            · rw [e]; exact h
            · exact HL.out i (by omega))
          clear hcell
          generalize st.getD k 0 = n at *
          by_cases g : 0 ≤ n ∧ n ≤ cap
          · have HR := Lib.hid (HLS.out (decide_eq_true g))
            obtain ⟨g1, g2⟩ := g
            go_wp2
            go_round
            case rel => exact ⟨k + 1, by omega, num_i (by omega), HR.out⟩
            case measure => simp [intOf]; omega
          · have HR := Lib.hid (HN'.out (decide_eq_false g))
            by_cases g1 : n < 0
            · go_wp2
              go_ret
              exact ⟨ret_b (by rw [HB.out, HR.out]), Below.al (Below.refl _ _) _⟩
            · have g2 : cap < n := by omega
              clear g
              go_wp2
              go_ret
              exact ⟨ret_b (by rw [HB.out, HR.out]), Below.al (Below.refl _ _) _⟩
        · obtain rfl : k = st.length := by omega
          go_wp2
          go_ret
          exact ⟨ret_b (by rw [HB.out, HY.out HL.out]), Below.al (Below.refl _ _) _⟩
    · obtain rfl := N2.out hc
      by_cases c1 : cap < 1
      · clear hc
        go_enter Try.func80, Try.ntmps80
        go_wp2_with fail
        refine (rightSize_any _ _ _).mono ?_
        rintro e w' ⟨rfl, rfl⟩
        go_wp2
        go_ret
        exact ⟨rfl, Below.al (Below.refl _ _) _⟩
      · by_cases c2 : 1099511627776 < cap
        · clear hc
          go_enter Try.func80, Try.ntmps80
          go_wp2_with fail
          refine (rightSize_any _ _ _).mono ?_
          rintro e w' ⟨rfl, rfl⟩
          go_wp2
          go_ret
          exact ⟨rfl, Below.al (Below.refl _ _) _⟩
        · have c3 : rows * cols < (st.length : Int) := by omega
          clear hc
          go_enter Try.func80, Try.ntmps80
          go_wp2_with fail
          refine (rightSize_any _ _ _).mono ?_
          rintro e w' ⟨rfl, rfl⟩
          go_wp2
          go_ret
          exact ⟨rfl, Below.al (Below.refl _ _) _⟩
  · obtain rfl := N1.out h1
    go_enter Try.func80, Try.ntmps80
    go_wp2_with fail
    refine (rightSize_any _ _ _).mono ?_
    rintro e w' ⟨rfl, rfl⟩
    go_wp2
    go_ret
    exact ⟨rfl, Below.al (Below.refl _ _) _⟩
set_option maxRecDepth 100000 in
set_option maxHeartbeats 4000000 in
theorem rplate_any (q : Pl) (w : World) (hs : KI.IsL w w.heap.size (.slice q.sA q.sn q.sc) q.st) (hok : KP.ok q) : Calls Try.prog 75 #[q.v] w fun e w' => e = .returned (.bool (plateB q)) ∧ Below w.heap.size w w' := by
  have N1 := Lib.hid (plate_no1 q)
  have N2 := Lib.hid (plate_no2 q)
  have N3 := Lib.hid (plate_is q)
  have hn := hs.len
  have hl := hs.2.2
  have HCL := Lib.hid (fun h0 : 0 < q.st.length => KI.cells hs h0)
  obtain ⟨_, _, _, _, _, hcap⟩ := hok
  obtain ⟨B, hB⟩ : ∃ B, B = plateB q := ⟨_, rfl⟩
  rw [← hB] at N1 N2 N3 ⊢
  clear hB
  obtain ⟨rows, cols, x, p, r, cap, sA, sn, sc, st⟩ := q
  dsimp only at *
  subst hn
  clear hs
  unfold fits at hcap
  rcases Bool.eq_false_or_eq_true (sizeB rows cols) with h1 | h1
  · obtain ⟨m1, m2⟩ := size_mul h1
    by_cases hc : 1 ≤ cap ∧ cap ≤ 1099511627776 ∧ (st.length : Int) ≤ rows * cols
    · have hB := N3.out h1 hc
      obtain ⟨c1, c2, c3⟩ := hc
      have HB := Lib.hid hB
      have HN := Lib.hid (all_no st (okN cap))
      have HY := Lib.hid (all_yes st (okN cap))
      clear N1 N2 N3 hB
      go_enter Try.func75, Try.ntmps75
      go_wp2_with fail
      refine (box_any _ _ _).mono ?_
      rintro e w' ⟨rfl, rfl⟩
      go_wp2
      obtain ⟨w0, hw0⟩ : ∃ w0, w0 = w.alloc (.cells #[.int .i64 rows, .int .i64 cols, .float .f64 x, .float .f64 p, .float .f64 r, .int .i64 cap, .slice sA st.length sc] 75) := ⟨_, rfl⟩
      rw [← hw0]
      have f5 : w0.cell? ⟨w.heap.size, 5, none⟩ = some (.int .i64 cap) := by rw [hw0]; simp
      have f6 : w0.cell? ⟨w.heap.size, 6, none⟩ = some (.slice sA st.length sc) := by rw [hw0]; simp
      have HB0 := Lib.hid (show Below w.heap.size w w0 by rw [hw0]; exact Below.al (Below.refl _ _) _)
      clear hw0
      go_loopw [3] (fun i wr => ∃ k d : Nat, k ≤ st.length ∧ i = .int .i64 k ∧ wr = w0.drewN d ∧ ∀ i, i < k → okN cap (st.getD i 0) = true) (fun i _ => st.length - (intOf i).toNat)
      case atStart => exact ⟨0, 0, Nat.zero_le _, rfl, rfl, fun i hi => by omega⟩
      case round =>
        obtain ⟨k, d, hk, rfl, hw, hall⟩ := hrel
        have HL := Lib.hid hall
        have HW := Lib.hid hw
        have g5 : wr.cell? ⟨w.heap.size, 5, none⟩ = some (.int .i64 cap) := by rw [hw]; exact f5
        have g6 : wr.cell? ⟨w.heap.size, 6, none⟩ = some (.slice sA st.length sc) := by rw [hw]; exact f6
        have HBW := Lib.hid (show Below w.heap.size w wr by rw [hw]; exact below_drewN HB0.out _)
        clear hall hw
        by_cases hlt : k < st.length
        · obtain ⟨b, off, cp, hv, hc2, hbB, _, hcell, _⟩ := HCL.out (by omega)
          injection hv with e1 e2 e3
          subst e1 e3
          have hx := (HBW.out.cell (p := ⟨b, off + k, none⟩) hbB).trans (hcell k hlt)
          have HN' := Lib.hid (HN.out k hlt)
          have HLS := Lib.hid (show ∀ (h : okN cap (st.getD k 0) = true) (i : Nat), i < k + 1 → okN cap (st.getD i 0) = true from fun h i hi => by
            by_cases e : i = k
            · rw [e]; exact h
            · exact HL.out i (by omega))
          clear hcell f5 f6
          generalize st.getD k 0 = n at *
          by_cases g : 0 ≤ n ∧ n ≤ cap
          · have HR := Lib.hid (HLS.out (decide_eq_true g))
            obtain ⟨g1, g2⟩ := g
            have d1 : decide (n < 0) = false := decide_eq_false (by omega)
            have d2 : decide (cap < n) = false := decide_eq_false (by omega)
            go_wp2_with fail
            go_quiet (fail)
            go_wp2
            go_roundw
            case rel => obtain ⟨d2, hd2⟩ := drewN_two w0 d nq; exact ⟨k + 1, d2, by omega, num_i (by omega), by rw [HW.out]; exact hd2, HR.out⟩
            case measure => simp [intOf]; omega
          · have HR := Lib.hid (HN'.out (decide_eq_false g))
            by_cases g1 : n < 0
            · have d1 : decide (n < 0) = true := decide_eq_true g1
              go_wp2_with fail
              go_quiet (fail)
              go_wp2
              go_ret
              exact ⟨ret_b (by rw [HB.out, HR.out]), below_drewN HBW.out _⟩
            · have d1 : decide (n < 0) = false := decide_eq_false (by omega)
              have d2 : decide (cap < n) = true := decide_eq_true (by omega)
              clear g
              go_wp2_with fail
              go_quiet (fail)
              go_wp2
              go_ret
              exact ⟨ret_b (by rw [HB.out, HR.out]), below_drewN HBW.out _⟩
        · obtain rfl : k = st.length := by omega
          go_wp2
          go_ret
          exact ⟨ret_b (by rw [HB.out, HY.out HL.out]), HBW.out⟩
    · obtain rfl := N2.out hc
      by_cases c1 : cap < 1
      · clear hc
        go_enter Try.func75, Try.ntmps75
        go_wp2_with fail
        refine (box_any _ _ _).mono ?_
        rintro e w' ⟨rfl, rfl⟩
        go_wp2
        go_ret
        exact ⟨rfl, Below.al (Below.refl _ _) _⟩
      · by_cases c2 : 1099511627776 < cap
        · clear hc
          go_enter Try.func75, Try.ntmps75
          go_wp2_with fail
          refine (box_any _ _ _).mono ?_
          rintro e w' ⟨rfl, rfl⟩
          go_wp2
          go_ret
          exact ⟨rfl, Below.al (Below.refl _ _) _⟩
        · have c3 : rows * cols < (st.length : Int) := by omega
          clear hc
          go_enter Try.func75, Try.ntmps75
          go_wp2_with fail
          refine (box_any _ _ _).mono ?_
          rintro e w' ⟨rfl, rfl⟩
          go_wp2
          go_ret
          exact ⟨rfl, Below.al (Below.refl _ _) _⟩
  · obtain rfl := N1.out h1
    go_enter Try.func75, Try.ntmps75
    go_wp2_with fail
    refine (box_any _ _ _).mono ?_
    rintro e w' ⟨rfl, rfl⟩
    go_wp2
    go_ret
    exact ⟨rfl, Below.al (Below.refl _ _) _⟩
end Go.Proofs.Ytlgpnjbhmoomfaa
