/- Histories: whether one is right, as the program tells it. -/
import Derived.Test.YtbfklpopodmalaaHK
namespace Go.Proofs.Ytbfklpopodmalaa
open Go.RowKit
def nowE (h : List Ev) (k : Nat) : Int := if k = 0 then 0 else (h.getD (k - 1) ev0).a
theorem nowE_succ (h : List Ev) (k : Nat) : nowE h (k + 1) = (h.getD k ev0).a := rfl
theorem okB_now {h : List Ev} {k : Nat} (hall : ∀ i, i < k → okB h i = true) : 0 ≤ nowE h k ∧ okB h k = (decide (nowE h k < (h.getD k ev0).a) && decide (1 ≤ (h.getD k ev0).w) && decide ((h.getD k ev0).w ≤ 8) &&
    decide ((h.getD k ev0).k = ((cntE (h.take k) (h.getD k ev0).w % 3 : Nat) : Int) + 1) && decide ((h.getD k ev0).n = ((cntE (h.take k) (h.getD k ev0).w / 3 : Nat) : Int) + 1)) := by
  cases k with
  | zero =>
    refine ⟨Int.le_refl _, ?_⟩
    have e : okB h 0 = (decide (1 ≤ (h.getD 0 ev0).a) && (decide (0 = 0) || decide ((h.getD (0 - 1) ev0).a < (h.getD 0 ev0).a)) && decide (1 ≤ (h.getD 0 ev0).w) && decide ((h.getD 0 ev0).w ≤ 8) &&
      decide ((h.getD 0 ev0).k = ((cntE (h.take 0) (h.getD 0 ev0).w % 3 : Nat) : Int) + 1) && decide ((h.getD 0 ev0).n = ((cntE (h.take 0) (h.getD 0 ev0).w / 3 : Nat) : Int) + 1)) := rfl
    rw [e, decide_eq_true (rfl : 0 = 0), Bool.true_or, Bool.and_true]
    rfl
  | succ j =>
    have hj := hall j (Nat.lt_succ_self j)
    have h1 : 1 ≤ (h.getD j ev0).a := by
      unfold okB at hj
      simp only [Bool.and_eq_true, decide_eq_true_eq] at hj
      exact hj.1.1.1.1.1
    have e : okB h (j + 1) = (decide (1 ≤ (h.getD (j + 1) ev0).a) && (decide (j + 1 = 0) || decide ((h.getD j ev0).a < (h.getD (j + 1) ev0).a)) && decide (1 ≤ (h.getD (j + 1) ev0).w) && decide ((h.getD (j + 1) ev0).w ≤ 8) &&
      decide ((h.getD (j + 1) ev0).k = ((cntE (h.take (j + 1)) (h.getD (j + 1) ev0).w % 3 : Nat) : Int) + 1) && decide ((h.getD (j + 1) ev0).n = ((cntE (h.take (j + 1)) (h.getD (j + 1) ev0).w / 3 : Nat) : Int) + 1)) := rfl
    refine ⟨by rw [nowE_succ]; omega, ?_⟩
    rw [e, decide_eq_false (Nat.succ_ne_zero j), Bool.false_or, nowE_succ]
    have e2 : (decide (1 ≤ (h.getD (j + 1) ev0).a) && decide ((h.getD j ev0).a < (h.getD (j + 1) ev0).a)) = decide ((h.getD j ev0).a < (h.getD (j + 1) ev0).a) := by
      by_cases q : (h.getD j ev0).a < (h.getD (j + 1) ev0).a
      · rw [decide_eq_true q, decide_eq_true (by omega), Bool.and_true]
      · rw [decide_eq_false q, Bool.and_false]
    rw [e2]
/-- 1, 2, 3 in a block. -/
structure Od (w : World) (B : Nat) : Prop where
  c : ∀ i : Nat, i < 3 → w.cell? ⟨B, i, none⟩ = some (.int .i64 ((i : Int) + 1))
  b : B < w.heap.size
theorem Od.set {w : World} {B D k : Nat} (h : Od w B) (hne : B ≠ D) (q : Value) : Od (w.setCell ⟨D, k, none⟩ q) B := ⟨fun i hi => st_other (h.c i hi) (by intro e; injection e with e1; first | exact hne e1 | exact hne e1.symm), by simpa using h.b⟩
theorem Od.alloc {w : World} {B : Nat} (h : Od w B) (o : Obj) : Od (w.alloc o) B := ⟨fun i hi => keep_cell (Below.al (Below.refl w.heap.size w) o) (h.c i hi), by have := h.b; simp; omega⟩
theorem Od.drewN {w : World} {B : Nat} (h : Od w B) (d : Nat) : Od (w.drewN d) B := ⟨h.c, h.b⟩
set_option maxRecDepth 100000 in
set_option maxHeartbeats 4000000 in

theorem right_any (v : Value) (h : List Ev) (w : World) (hv : KE.IsL w w.heap.size v h) (hl : h.length ≤ 1000) :
    Calls Try.prog 7 #[v] w fun e w' => e = .returned (.bool (rgB h)) ∧ Below w.heap.size w w' := by
  have HV := Lib.hid hv
  obtain ⟨A, c0, rfl, hc0⟩ := hv.shape
  clear hv
  have HFl := Lib.hid (fun k hk e => rgB_false (h := h) (k := k) hk e)
  have HTr := Lib.hid (fun e => rgB_true (h := h) e)
  have HON := Lib.hid (fun k hall => okB_now (h := h) (k := k) hall)
  have HCL := Lib.hid (fun (k : Nat) (x : Int) => show cntE (h.take k) x ≤ 1000 from Nat.le_trans (List.length_filter_le _ _) (by rw [List.length_take]; omega))
  have HCT := Lib.hid (fun (k : Nat) (hk : k < h.length) (x : Int) => cntE_take h k _ (getD_some hk) x)
  have HNS := Lib.hid (fun k => nowE_succ h k)
  obtain ⟨w0, hw0⟩ : ∃ w0, w0 = (w.alloc (.cells #[.int .i64 1, .int .i64 2, .int .i64 3] 37)).alloc (.cells #[.int .i64 0, .int .i64 0, .int .i64 0, .int .i64 0, .int .i64 0, .int .i64 0, .int .i64 0, .int .i64 0, .int .i64 0] 38) := ⟨_, rfl⟩
  have O0 := Lib.hid (show Od w0 w.heap.size by
    rw [hw0]
    refine Od.alloc ⟨fun i hi => ?_, by simp⟩ _
    rcases (show i = 0 ∨ i = 1 ∨ i = 2 by omega) with rfl | rfl | rfl <;> simp [go_sem])
  have N0 := Lib.hid (show Ni w0 (w.heap.size + 1) (fun i => ((cntE (h.take 0) (i : Int) : Nat) : Int)) by
    rw [hw0]
    refine ⟨fun i hi => ?_, fun i => by simp [go_sem], by simp⟩
    rcases (show i = 0 ∨ i = 1 ∨ i = 2 ∨ i = 3 ∨ i = 4 ∨ i = 5 ∨ i = 6 ∨ i = 7 ∨ i = 8 by omega) with rfl | rfl | rfl | rfl | rfl | rfl | rfl | rfl | rfl <;> simp [go_sem, cntE])
  have HB0 := Lib.hid (show Below w.heap.size w w0 by rw [hw0]; exact Below.al (Below.al (Below.refl _ _) _) _)
  generalize rgB h = z at *
  go_enter Try.func7, Try.ntmps7
  go_upto_region 4 with fail
  rw [← hw0]
  clear hw0
  go_wp2
  go_loopg [5, 12] h.length (fun gh nw i wr => ∃ k : Nat, k ≤ h.length ∧ gh = h.length - k ∧ nw = .int .i64 (nowE h k) ∧ i = .int .i64 k ∧ Ni wr (w.heap.size + 1) (fun i => ((cntE (h.take k) (i : Int) : Nat) : Int)) ∧ Od wr w.heap.size ∧ (∀ i, i < k → okB h i = true) ∧ Below w.heap.size w wr)
  case atStart => exact ⟨0, Nat.zero_le _, rfl, rfl, rfl, N0.out, O0.out, fun i hi => absurd hi (Nat.not_lt_zero _), HB0.out⟩
  case round =>
    obtain ⟨k, hk, rfl, rfl, rfl, hni, hod, hall, hbl⟩ := hrel
    have N := Lib.hid hni
    have O := Lib.hid hod
    have HAll := Lib.hid hall
    have HB := Lib.hid hbl
    clear hni hod hall hbl
    by_cases hlt : k < h.length
    · have HFk := Lib.hid (HFl.out k hlt)
      have HCT := Lib.hid (HCT.out k hlt)
      have HCL := Lib.hid (HCL.out k)
      have HNk := Lib.hid (HNS.out k)
      obtain ⟨b, off, rfl, hb, _, hcell⟩ := ev_cells (HV.out.then HB.out) (by omega)
      obtain ⟨e0, e1, e2, e3⟩ := hcell k hlt
      obtain ⟨hn0, hok⟩ := HON.out k HAll.out
      obtain ⟨d, hd⟩ : ∃ d, h.getD k ev0 = d := ⟨_, rfl⟩
      rw [hd] at hok e0 e1 e2 e3 HCT HNk
      clear hcell hd
      obtain ⟨dk, dw, dn, da⟩ := d
      simp only at e0 e1 e2 e3 hok HNk
      generalize nowE h k = nw at *
      obtain ⟨wo, hwo⟩ : ∃ wo, wo = wr.alloc (.cells #[.int .i64 dk, .int .i64 dw, .int .i64 dn, .int .i64 da] 35) := ⟨_, rfl⟩
      have NO := Lib.hid (show Ni wo (w.heap.size + 1) (fun i => ((cntE (h.take k) (i : Int) : Nat) : Int)) by rw [hwo]; exact N.out.alloc _)
      have OO := Lib.hid (show Od wo w.heap.size by rw [hwo]; exact O.out.alloc _)
      have HBo := Lib.hid (show Below w.heap.size w wo by rw [hwo]; exact Below.al HB.out _)
      have y0 : wo.cell? ⟨wr.heap.size, 0, none⟩ = some (.int .i64 dk) := by rw [hwo]; simp [go_sem]
      have y1 : wo.cell? ⟨wr.heap.size, 1, none⟩ = some (.int .i64 dw) := by rw [hwo]; simp [go_sem]
      have y2 : wo.cell? ⟨wr.heap.size, 2, none⟩ = some (.int .i64 dn) := by rw [hwo]; simp [go_sem]
      have y3 : wo.cell? ⟨wr.heap.size, 3, none⟩ = some (.int .i64 da) := by rw [hwo]; simp [go_sem]
      have HOK := Lib.hid hok
      clear hok hn0
      go_upto_region 7 with fail
      rw [← hwo]
      clear hwo e0 e1 e2 e3
      by_cases h1 : da ≤ nw
      · have HE := Lib.hid (HFk.out (by rw [HOK.out, decide_eq_false (show ¬ nw < da by omega)]; simp))
        have x1 : decide (da ≤ nw) = true := decide_eq_true h1
        go_wp2
        go_ret
        exact ⟨ret_b HE.out.symm, HBo.out⟩

      have x1 : decide (da ≤ nw) = false := decide_eq_false h1
      by_cases h3 : dw < 1
      · have HE := Lib.hid (HFk.out (by rw [HOK.out, decide_eq_false (show ¬ 1 ≤ dw by omega)]; simp))
        have x3 : decide (dw < 1) = true := decide_eq_true h3
        go_wp2
        go_ret
        exact ⟨ret_b HE.out.symm, HBo.out⟩

      have x3 : decide (dw < 1) = false := decide_eq_false h3
      by_cases h4 : 8 < dw
      · have HE := Lib.hid (HFk.out (by rw [HOK.out, decide_eq_false (show ¬ dw ≤ 8 by omega)]; simp))
        have x4 : decide (8 < dw) = true := decide_eq_true h4
        go_wp2
        go_ret
        exact ⟨ret_b HE.out.symm, HBo.out⟩

      have x4 : decide (8 < dw) = false := decide_eq_false h4
      obtain ⟨x, rfl⟩ := Int.eq_ofNat_of_zero_le (show 0 ≤ dw by omega)
      have hx9 : x < 9 := by omega
      have n0 := NO.out.c x hx9
      have hxi : ((x : Int) < 9) := by omega
      have hxz : ¬ ((x : Int) < 0) := by omega
      have hxa : decide ((x : Int) < 0) = false := decide_eq_false (by omega)
      have hxb : decide (9 ≤ (x : Int)) = false := decide_eq_false (by omega)
      have hxc : decide (9 ≤ x) = false := decide_eq_false (by omega)
      have hund := Try.underlying38
      have hund3 := Try.underlying37
      have nz := NO.out.z x
      have hcl := HCL.out (x : Int)
      have HCT := Lib.hid (HCT.out)
      simp only at n0 HCT HOK
      obtain ⟨c, hcx⟩ : ∃ c, cntE (h.take k) (x : Int) = c := ⟨_, rfl⟩
      have HCX := Lib.hid hcx
      rw [hcx] at n0 hcl HOK
      clear hcx
      have hm : (c : Int).tmod 3 = ((c % 3 : Nat) : Int) := rfl
      have hq : (c : Int).tdiv 3 = ((c / 3 : Nat) : Int) := rfl
      obtain ⟨m3, hm3⟩ : ∃ m, c % 3 = m := ⟨_, rfl⟩
      obtain ⟨q3, hq3⟩ : ∃ m, c / 3 = m := ⟨_, rfl⟩
      rw [hm3] at hm HOK
      rw [hq3] at hq HOK
      have hml : m3 < 3 := by omega
      have o0 := OO.out.c m3 hml
      have hmi : ((m3 : Int) < 3) := by omega
      have hmz : ¬ ((m3 : Int) < 0) := by omega
      have hma : decide ((m3 : Int) < 0) = false := decide_eq_false (by omega)
      have hmb : decide (3 ≤ (m3 : Int)) = false := decide_eq_false (by omega)
      have hmc : decide (3 ≤ m3) = false := decide_eq_false (by omega)
      have hw2 : IntKind.i64.wrap (1 + (q3 : Int)) = 1 + (q3 : Int) := by rw [IntKind.wrap_i64]; omega
      have hw3 : IntKind.i64.wrap (q3 : Int) = (q3 : Int) := by rw [IntKind.wrap_i64]; omega
      have hw4 : IntKind.i64.wrap ((c : Int) + 1) = (c : Int) + 1 := by rw [IntKind.wrap_i64]; omega
      have hw5 : IntKind.i64.wrap (m3 : Int) = (m3 : Int) := by rw [IntKind.wrap_i64]; omega
      clear hm3 hq3
      by_cases h5 : ¬ dk = (m3 : Int) + 1
      · have HE := Lib.hid (HFk.out (by rw [HOK.out, decide_eq_false h5]; simp))
        go_wp2_with fail
        go_quiet (fail)
        go_wp2
        go_ret
        exact ⟨ret_b HE.out.symm, below_drewN HBo.out _⟩

      replace h5 := Classical.not_not.1 h5
      by_cases h6 : ¬ dn = 1 + (q3 : Int)
      · have HE := Lib.hid (HFk.out (by rw [HOK.out, decide_eq_false (show ¬ dn = (q3 : Int) + 1 by omega)]; simp))
        subst h5
        go_wp2_with fail
        go_quiet (fail)
        go_wp2
        go_ret
        exact ⟨ret_b HE.out.symm, below_drewN HBo.out _⟩

      replace h6 := Classical.not_not.1 h6
      have HT := Lib.hid (show okB h k = true by rw [HOK.out]; simp [h5, h6]; omega)
      subst h5; subst h6
      have y3s : ∀ d q, ((wo.drewN d).setCell ⟨w.heap.size + 1, x, none⟩ q).cell? ⟨wr.heap.size, 3, none⟩ = some (.int .i64 da) := fun d q => st_other y3 (by have := N.out.b; intro e; injection e with e1; omega)
      go_wp2_with fail
      go_quiet (fail)
      go_wp2
      go_roundg (h.length - (k + 1))
      case measure => omega
      case rel => exact ⟨k + 1, by omega, rfl, num_i HNk.out.symm, num_i (by omega), Ni.set (NO.out.drewN _) x _ (fun i hi => by
        show ((cntE (h.take (k + 1)) (i : Int) : Nat) : Int) = if i = x then (c : Int) + 1 else ((cntE (h.take k) (i : Int) : Nat) : Int)
        rw [HCT.out]
        by_cases e : i = x
        · subst e
          rw [if_pos rfl, if_pos rfl, HCX.out]
          omega
        · rw [if_neg (by omega), if_neg e]
          omega), Od.set (OO.out.drewN _) (by omega) _, fun i hi => by
        rcases Nat.lt_or_eq_of_le (Nat.le_of_lt_succ hi) with h' | rfl
        · exact HAll.out i h'
        · exact HT.out, Below.st (below_drewN HBo.out _) (by show w.heap.size ≤ w.heap.size + 1; omega)⟩
    · obtain rfl : k = h.length := by omega
      have HE := Lib.hid (HTr.out HAll.out)
      go_wp2
      go_ret
      exact ⟨ret_b HE.out.symm, HB.out⟩
end Go.Proofs.Ytbfklpopodmalaa
