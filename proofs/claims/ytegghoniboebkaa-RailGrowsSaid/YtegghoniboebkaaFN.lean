/- The laws on borders' checks and on lanes. -/
import Derived.Test.YtegghoniboebkaaFM
namespace Go.Proofs.Ytegghoniboebkaa
open Go.RowKit

/-- What each law answers. -/
def Good (w : World) (e : Ending) (w' : World) : Prop := e = .returned (.bool true) ∧ Below w.heap.size w w'

set_option maxRecDepth 100000 in
set_option maxHeartbeats 4000000 in
theorem railChecks_walk (v : Value) (xs : List Nat) (k : Int) (w : World) (h : KF.IsL w w.heap.size v xs) : Calls Try.prog 3 #[v, .int .i64 k] w (Good w) := by
  obtain ⟨⟨A, cap, hv, hc, hA⟩, hf, hl⟩ := id h
  subst hv
  clear hA hf
  by_cases h60 : 60 < xs.length
  · clear h
    go_enter Try.func3, Try.ntmps3
    go_wp2_with fail
    refine (lives7 _).mono ?_
    rintro e w1 ⟨rfl, hb⟩
    have HB := Lib.hid hb
    clear hb
    go_wp2_with fail
    go_ret
    exact ⟨rfl, HB.out⟩
  · have HI := Lib.hid h
    clear h
    go_enter Try.func3, Try.ntmps3
    go_wp2_with fail
    refine (lives7 _).mono ?_
    rintro e w1 ⟨rfl, hb⟩
    have HB := Lib.hid hb
    have HI1 := Lib.hid (HI.out.then hb)
    clear hb
    go_wp2_with fail
    refine (check_any _ xs w1 HI1.out).mono ?_
    rintro e w' ⟨rfl, rfl⟩
    go_wp2_with fail
    refine (rcheck_any _ xs w1 HI1.out).mono ?_
    rintro e w2 ⟨rfl, d, hd⟩
    have HI2 := Lib.hid (show KF.IsL w2 w2.heap.size (.slice A xs.length cap) xs by rw [hd]; exact HI1.out)
    have HB2 := Lib.hid (show Below w.heap.size w w2 by rw [hd]; exact below_drewN HB.out _)
    clear hd
    go_wp2_with fail
    refine (width_any _ xs k w2 HI2.out).mono ?_
    rintro e w3 ⟨rfl, d3, hd⟩
    have HI3 := Lib.hid (show KF.IsL w3 w3.heap.size (.slice A xs.length cap) xs by rw [hd]; exact HI2.out)
    have HB3 := Lib.hid (show Below w.heap.size w w3 by rw [hd]; exact below_drewN HB2.out _)
    clear hd
    go_wp2_with fail
    refine (bits_any _ _).mono ?_
    rintro e w' ⟨rfl, rfl⟩
    go_wp2_with fail
    refine (rwidth_any _ xs k w3 HI3.out).mono ?_
    rintro e w4 ⟨rfl, d4, hd⟩
    have HB4 := Lib.hid (show Below w.heap.size w w4 by rw [hd]; exact below_drewN HB3.out _)
    clear hd
    go_wp2_with fail
    refine (bits_any _ _).mono ?_
    rintro e w' ⟨rfl, rfl⟩
    go_wp2_with fail
    go_ret
    exact ⟨rfl, HB4.out⟩
def eqb (a b : Nat) : Bool := FloatKind.f64.format.order a b == some .eq
theorem eqb_of {a b : Nat} (ha : ¬ nan a) (hb : ¬ nan b) (h : vf a = vf b) : eqb a b = true := by
  unfold eqb
  rw [show FloatKind.f64.format.order a b = _ from order_num a b ha hb, h]
  simp [compare, compareOfLessAndEq]
/-- What a lane's place is known to be. -/
theorem lane_ok (xs : List Nat) (x : Nat) (he : laneE xs x = 0) : chkE xs = 0 ∧ Rise xs ∧ laneV xs x = (loV xs x 0 : Int) ∧ loV xs x 0 + 2 ≤ xs.length ∧ leb (xs.getD (loV xs x 0) 0) x = true ∧
    (ltb x (xs.getD (loV xs x 0 + 1) 0) = true ∨ (loV xs x 0 + 2 = xs.length ∧ eqb x (xs.getD (loV xs x 0 + 1) 0) = true)) := by
  have hz : chkE xs = 0 := by
    apply Decidable.byContradiction
    intro hz
    unfold laneE at he
    rw [if_neg hz] at he
    exact hz he
  have hr := rise_of xs hz
  have hx : nanb x = false := by
    rw [← Bool.not_eq_true]
    intro hx
    unfold laneE at he
    rw [if_pos hz, if_pos hx] at he
    omega
  have ho : outB xs x x = false := by
    rw [← Bool.not_eq_true]
    intro ho
    unfold laneE at he
    rw [if_pos hz, if_neg (by rw [hx]; simp), if_pos ho] at he
    omega
  have hn := nanb_of hx
  obtain ⟨s1, s2, s3, s4, s5, s6, s7, s8⟩ := lanes_spec xs hr x x hn hn (Int.le_refl _) ho
  have hv : laneV xs x = (loV xs x 0 : Int) := by unfold laneV; rw [if_pos hz, if_neg (by rw [hx]; simp), if_neg (by rw [ho]; simp)]
  refine ⟨hz, hr, hv, by omega, ?_, ?_⟩
  · rw [leb_num (hr.num _ (by omega)) hn]
    apply decide_eq_true
    by_cases h0 : loV xs x 0 = 0
    · rw [h0]; exact s8
    · have := s3 (loV xs x 0 - 1) (by omega)
      rw [show loV xs x 0 - 1 + 1 = loV xs x 0 by omega] at this
      exact this
  · by_cases hl : vf x < vf (xs.getD (loV xs x 0 + 1) 0)
    · exact .inl (by rw [ltb_num hn (hr.num _ (by omega))]; exact decide_eq_true hl)
    · rcases s4 with s4 | s4
      · refine .inr ⟨s4, eqb_of hn (hr.num _ (by omega)) ?_⟩
        rw [show xs.length - 1 = loV xs x 0 + 1 by omega] at s7
        omega
      · exact absurd s4 hl
set_option maxRecDepth 100000 in
set_option maxHeartbeats 4000000 in
theorem railLanes_walk (v : Value) (xs : List Nat) (x : Nat) (w : World) (h : KF.IsL w w.heap.size v xs) : Calls Try.prog 4 #[v, .float .f64 x] w (Good w) := by
  by_cases h60 : 60 < xs.length
  · obtain ⟨⟨A, cap, hv, hc, hA⟩, hf, hl⟩ := h
    subst hv
    clear hA hf
    go_enter Try.func4, Try.ntmps4
    go_wp2_with fail
    refine (lives7 _).mono ?_
    rintro e w1 ⟨rfl, hb⟩
    have HB := Lib.hid hb
    clear hb
    go_wp2_with fail
    go_ret
    exact ⟨rfl, HB.out⟩
  by_cases he : laneE xs x = 0
  · obtain ⟨hz, hr, hv, hk, h1, h2⟩ := lane_ok xs x he
    obtain ⟨_, b, off, cap, n, rfl, hn, hm, hb, hcell, hlt⟩ := rise_cells h hz
    have HI := Lib.hid h
    have HL := Lib.hid (fun w h => lane_any (.slice (some ⟨b, off, none⟩) xs.length cap) xs x w h)
    have HR := Lib.hid (fun w h => rlane_any (.slice (some ⟨b, off, none⟩) xs.length cap) xs x w h)
    rw [he, hv] at HL HR
    have hc0 := hcell _ (show loV xs x 0 < xs.length by omega)
    have hc1 := hcell _ (show loV xs x 0 + 1 < xs.length by omega)
    have HC0 := Lib.hid (fun w1 (hb1 : Below w.heap.size w w1) => (hb1.cell (p := ⟨b, off + loV xs x 0, none⟩) hb).trans hc0)
    have HC1 := Lib.hid (fun w1 (hb1 : Below w.heap.size w w1) => (hb1.cell (p := ⟨b, off + (loV xs x 0 + 1), none⟩) hb).trans hc1)
    have olt : ∀ a b, (FloatKind.f64.format.order a b == some .lt) = ltb a b := fun _ _ => rfl
    have oeq : ∀ a b, (FloatKind.f64.format.order a b == some .eq) = eqb a b := fun _ _ => rfl
    have ole : ∀ a b, (ltb a b || eqb a b) = leb a b := fun _ _ => rfl
    clear hc0 hc1 hcell hlt hr hz hv he h
    generalize xs.getD (loV xs x 0 + 1) 0 = f1 at *
    generalize xs.getD (loV xs x 0) 0 = f0 at *
    generalize loV xs x 0 = k at *
    rw [hn] at h2 hk
    rw [hn] at HI HL HR
    rw [hn]
    clear hn
    rcases Bool.eq_false_or_eq_true (ltb x f1) with g | g
    all_goals
      have hh : ltb x f1 = true ∨ (k = n ∧ eqb x f1 = true) := by
        rcases h2 with h2 | h2
        · exact .inl h2
        · exact .inr ⟨by omega, h2.2⟩
      have HH := Lib.hid hh
      clear h2 hh
      go_enter Try.func4, Try.ntmps4
      go_wp2_with fail
      refine (HL.out w HI.out).mono ?_
      rintro e w1 ⟨rfl, hb1⟩
      have HI1 := Lib.hid (HI.out.then hb1)
      have HB1 := Lib.hid hb1
      clear hb1
      go_wp2_with fail
      refine (HR.out w1 HI1.out).mono ?_
      rintro e w2 ⟨rfl, d, hd⟩
      have HB2 := Lib.hid (show Below w.heap.size w w2 by rw [hd]; exact below_drewN HB1.out _)
      clear hd
      go_wp2_with fail
      refine (lives7 _).mono ?_
      rintro e w3 ⟨rfl, hb3⟩
      have HB3 := Lib.hid (Below.call HB2.out hb3)
      clear hb3
      have c0 := HC0.out w3 HB3.out
      have c1 := HC1.out w3 HB3.out
    · go_wp2_with fail
      go_ret
      exact ⟨rfl, HB3.out⟩
    · obtain ⟨rfl, he⟩ : k = n ∧ eqb x f1 = true := by
        rcases HH.out with h | h
        · rw [g] at h; cases h
        · exact h
      go_wp2_with fail
      go_ret
      exact ⟨rfl, HB3.out⟩
  · obtain ⟨⟨A, cap, hv, hc, hA⟩, hf, hl⟩ := id h
    have HI := Lib.hid h
    have he' : (laneE xs x != 0) = true := by rw [bne_iff_ne]; exact he
    have HL := Lib.hid (fun w h => lane_any v xs x w h)
    have HR := Lib.hid (fun w h => rlane_any v xs x w h)
    subst hv
    clear hA hf h he
    generalize laneE xs x = c at *
    generalize laneV xs x = k at *
    go_enter Try.func4, Try.ntmps4
    go_wp2_with fail
    refine (HL.out w HI.out).mono ?_
    rintro e w1 ⟨rfl, hb1⟩
    have HI1 := Lib.hid (HI.out.then hb1)
    have HB1 := Lib.hid hb1
    clear hb1
    go_wp2_with fail
    refine (HR.out w1 HI1.out).mono ?_
    rintro e w2 ⟨rfl, d, hd⟩
    have HB2 := Lib.hid (show Below w.heap.size w w2 by rw [hd]; exact below_drewN HB1.out _)
    clear hd
    go_wp2_with fail
    refine (lives7 _).mono ?_
    rintro e w3 ⟨rfl, hb3⟩
    have HB3 := Lib.hid (Below.call HB2.out hb3)
    clear hb3
    go_wp2_with fail
    go_ret
    exact ⟨rfl, HB3.out⟩
end Go.Proofs.Ytegghoniboebkaa
