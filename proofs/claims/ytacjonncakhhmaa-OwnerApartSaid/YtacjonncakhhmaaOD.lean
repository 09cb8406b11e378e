/- Owners: what may not be passed on, and what is passed; what an arm owns, and what it lacks. -/
import Derived.Test.YtacjonncakhhmaaOC
namespace Go.Proofs.Ytacjonncakhhmaa
open Go.RowKit
def setAll (o ids : List Int) (x : Int) : List Int := ids.foldl (fun l id => l.set id.toNat x) o
theorem setAll_len (o ids : List Int) (x : Int) : (setAll o ids x).length = o.length := by
  unfold setAll
  induction ids generalizing o with
  | nil => rfl
  | cons a r ih => rw [List.foldl_cons, ih, List.length_set]
theorem setAll_snoc (o ids : List Int) (id x : Int) : setAll o (ids ++ [id]) x = (setAll o ids x).set id.toNat x := by
  unfold setAll
  rw [List.foldl_append]
  rfl
/-- Why something is not passed on, at which number, and what is left. -/
def psE (o ids : List Int) (who : Int) (q : Int → Bool) (nt : Int) : Int :=
  if rgO o && armO who && decide (Two.Inc ids) then if ids.any (fun x => !hasB o.length x) then 3 else if ids.any (fun x => !q (o.getD x.toNat 0)) then nt else 0 else 1
def psI (o ids : List Int) (who : Int) (q : Int → Bool) : Int :=
  if rgO o && armO who && decide (Two.Inc ids) then if ids.any (fun x => !hasB o.length x) then (fstN (fun x => !hasB o.length x) ids).1 else (fstN (fun x => !q (o.getD x.toNat 0)) ids).1 else 0
def psL (o ids : List Int) (who : Int) (q : Int → Bool) (nx : Int) : List Int :=
  if rgO o && armO who && decide (Two.Inc ids) then if ids.any (fun x => !hasB o.length x) then [] else if ids.any (fun x => !q (o.getD x.toNat 0)) then [] else setAll o ids nx else []
theorem hasB_iff (n : Nat) (x : Int) : hasB n x = true ↔ 0 ≤ x ∧ x < n := by unfold hasB; rw [Bool.and_eq_true, decide_eq_true_eq, decide_eq_true_eq]
theorem has_all (n : Nat) (ids : List Int) (h : ids.any (fun x => !hasB n x) = false) : ∀ x ∈ ids, 0 ≤ x ∧ x < n := fun x hx => by
  rw [List.any_eq_false] at h
  have := h x hx
  rw [Bool.not_eq_true, Bool.not_eq_false'] at this
  exact (hasB_iff n x).1 this

theorem fstN_miss {p : Int → Bool} {xs : List Int} {z : Int} (h : fstN p xs = (z, false)) : z = 0 := by
  induction xs with
  | nil => simp only [fstN, Prod.mk.injEq] at h; exact h.1.symm
  | cons x r ih =>
    by_cases hp : p x = true
    · simp [fstN, hp] at h
    · exact ih (by simpa [fstN, hp] using h)
set_option maxRecDepth 100000 in
set_option maxHeartbeats 4000000 in
theorem pass_any (v u : Value) (o ids : List Int) (who : Int) (kf : Nat) (cap : Array Value) (q : Int → Bool) (nt nx : Int) (w : World) (hv : KI.IsL w w.heap.size v o) (hu : KI.IsL w w.heap.size u ids) (hl : o.length ≤ 1000) (hnx : fits nx)
    (H2 : ∀ (w' : World) (x : Int) (b1 b0 : Nat), w'.cell? ⟨b1, 0, none⟩ = some (.func (.func kf) #[] cap) → w'.cell? ⟨b0, 0, none⟩ = some v → Below w.heap.size w w' → 0 ≤ x → x < o.length → Calls Try.prog 116 #[.int .i64 x, .pointer (some ⟨b1, 0, none⟩), .pointer (some ⟨b0, 0, none⟩)] w' fun e w'' => e = .returned (.bool (!q (o.getD x.toNat 0))) ∧ Below w'.heap.size w' w'') :
    Calls Try.prog 69 #[v, u, .int .i64 who, .func (.func kf) #[] cap, .int .i64 nt, .int .i64 nx] w fun e w' => ∃ v', e = .returned (.tuple #[v', .int .i64 (psI o ids who q), .int .i64 (psE o ids who q nt)]) ∧ KI.Own w' w.heap.size v' (psL o ids who q nx) ∧ Below w.heap.size w w' := by
  have HV := Lib.hid hv
  have HU := Lib.hid hu
  have HH := Lib.hid H2
  have hen1 : ∀ args w, (callFunc 115 args).run Try.prog w = .ok (.enter 115 args) w := enters_of Try.func115 (by kernel_rfl) rfl
  have HE1 := Lib.hid hen1
  have HE2 := Lib.hid (show ∀ args w, (callFunc 116 args).run Try.prog w = .ok (.enter 116 args) w from enters_of Try.func116 (by kernel_rfl) rfl)
  have hmf : ∀ (fn : Fn) (first cap : Array Value) (w : World), (Instr.makeFunc fn first cap).run Try.prog w = .ok (.func fn first cap) w := fun _ _ _ _ => rfl
  obtain ⟨A, c, rfl, hc⟩ := hv.shape
  obtain ⟨A2, c2, rfl, hc2⟩ := hu.shape
  have hE : psE o ids who q nt = if rgO o && armO who && decide (Two.Inc ids) then if ids.any (fun x => !hasB o.length x) then 3 else if ids.any (fun x => !q (o.getD x.toNat 0)) then nt else 0 else 1 := rfl
  have hI : psI o ids who q = if rgO o && armO who && decide (Two.Inc ids) then if ids.any (fun x => !hasB o.length x) then (fstN (fun x => !hasB o.length x) ids).1 else (fstN (fun x => !q (o.getD x.toNat 0)) ids).1 else 0 := rfl
  have hL : psL o ids who q nx = if rgO o && armO who && decide (Two.Inc ids) then if ids.any (fun x => !hasB o.length x) then [] else if ids.any (fun x => !q (o.getD x.toNat 0)) then [] else setAll o ids nx else [] := rfl
  rw [hE, hI, hL]
  clear hE hI hL hv hu H2 hen1
  obtain ⟨w0, hw0⟩ : ∃ w0, w0 = (w.alloc (.cells #[.slice A o.length c] 56)).alloc (.cells #[.func (.func kf) #[] cap] 106) := ⟨_, rfl⟩
  have c0 : w0.cell? ⟨w.heap.size, 0, none⟩ = some (.slice A o.length c) := by rw [hw0]; simp [go_sem]
  have c1 : w0.cell? ⟨w.heap.size + 1, 0, none⟩ = some (.func (.func kf) #[] cap) := by rw [hw0]; simp [go_sem]
  have HB0 := Lib.hid (show Below w.heap.size w w0 by rw [hw0]; exact Below.al (Below.al (Below.refl _ _) _) _)
  have HR := Lib.hid (fun w => right_o (.slice A o.length c) o w)
  have HA := Lib.hid (fun w => armO_any who w)
  have HS := Lib.hid (fun w h => Two.right_any (.slice A2 ids.length c2) ids w h)
  have H115 := Lib.hid (fun x b w h => pass1_any x b A o.length c w h)
  generalize rgO o = r at *
  generalize armO who = a at *
  generalize decide (Two.Inc ids) = i at *
  cases r
  · simp only [Bool.false_and, Bool.false_eq_true, if_false]
    go_enter Try.func69, Try.ntmps69
    go_wp2_with fail
    rw [← hw0]
    clear hw0
    refine (HR.out _ (HV.out.then HB0.out)).mono ?_
    rintro e w1 ⟨rfl, hb1⟩
    have HB1 := Lib.hid (Below.call HB0.out hb1)
    clear hb1
    go_wp2
    go_ret3
    exact ⟨_, rfl, Lk.Own.nil _ _, HB1.out⟩
  cases a
  · simp only [Bool.and_false, Bool.false_and, Bool.false_eq_true, if_false]
    go_enter Try.func69, Try.ntmps69
    go_wp2_with fail
    rw [← hw0]
    clear hw0
    refine (HR.out _ (HV.out.then HB0.out)).mono ?_
    rintro e w1 ⟨rfl, hb1⟩
    have HB1 := Lib.hid (Below.call HB0.out hb1)
    clear hb1
    go_wp2_with fail
    refine (HA.out _).mono ?_
    rintro e w1 ⟨rfl, rfl⟩
    go_wp2
    go_ret3
    exact ⟨_, rfl, Lk.Own.nil _ _, HB1.out⟩
  have START := True.intro
  cases i
  · simp only [Bool.and_false, Bool.false_eq_true, if_false]
    go_enter Try.func69, Try.ntmps69
    go_wp2_with fail
    rw [← hw0]
    clear hw0
    refine (HR.out _ (HV.out.then HB0.out)).mono ?_
    rintro e w1 ⟨rfl, hb1⟩
    have HB1 := Lib.hid (Below.call HB0.out hb1)
    clear hb1
    go_wp2_with fail
    refine (HA.out _).mono ?_
    rintro e w1 ⟨rfl, rfl⟩
    go_wp2_with fail
    refine (HS.out _ (two_of (HU.out.then HB1.out))).mono ?_
    rintro e w3 ⟨rfl, d, rfl⟩
    have HB2 := Lib.hid (below_drewN HB1.out d)
    go_wp2
    go_ret3
    exact ⟨_, rfl, Lk.Own.nil _ _, HB2.out⟩
  simp only [Bool.and_self, if_true]
  have HAL := Lib.hid (fun h => has_all o.length ids h)
  rw [← fstN_snd] at HAL
  rw [← fstN_snd, ← fstN_snd]
  obtain ⟨z, hz⟩ : ∃ z, fstN (fun x => !hasB o.length x) ids = z := ⟨_, rfl⟩
  obtain ⟨y, hy⟩ : ∃ y, fstN (fun x => !q (o.getD x.toNat 0)) ids = y := ⟨_, rfl⟩
  rw [hz] at HAL
  rw [hz, hy]
  have HZ := Lib.hid hz
  have HY := Lib.hid hy
  clear hz hy
  obtain ⟨z1, z2⟩ := z
  obtain ⟨y1, y2⟩ := y
  go_enter Try.func69, Try.ntmps69
  go_wp2_with fail
  rw [← hw0]
  clear hw0
  refine (HR.out _ (HV.out.then HB0.out)).mono ?_
  rintro e w1 ⟨rfl, hb1'⟩
  have c0 := keep_cell hb1' c0
  have c1 := keep_cell hb1' c1
  have HB1 := Lib.hid (Below.call HB0.out hb1')
  clear hb1'
  go_wp2_with fail
  refine (HA.out _).mono ?_
  rintro e w1 ⟨rfl, rfl⟩
  go_wp2_with fail
  refine (HS.out _ (two_of (HU.out.then HB1.out))).mono ?_
  rintro e w3 ⟨rfl, d, rfl⟩
  have HB2 := Lib.hid (below_drewN HB1.out d)
  have c0 : (w1.drewN d).cell? ⟨w.heap.size, 0, none⟩ = some (.slice A o.length c) := c0
  have c1 : (w1.drewN d).cell? ⟨w.heap.size + 1, 0, none⟩ = some (.func (.func kf) #[] cap) := c1
  generalize w1.drewN d = w2 at *
  have HF1 := Lib.hid (first_any (.slice A2 ids.length c2) ids 115 #[.pointer (some ⟨w.heap.size, 0, none⟩)] (fun x => !hasB o.length x) w2 (HU.out.then HB2.out) HE1.out (fun w' hb x _ => (H115.out x w.heap.size w' (keep_cell hb c0)).mono fun _ _ q => ⟨q.1, by rw [← q.2]; exact Below.refl _ _⟩))
  rw [HZ.out] at HF1
  go_wp2_with fail
  refine (HF1.out).mono ?_
  rintro e w3 ⟨rfl, hb3⟩
  have c0 := keep_cell hb3 c0
  have c1 := keep_cell hb3 c1
  have HB3 := Lib.hid (Below.call HB2.out hb3)
  clear hb3 HF1
  cases z2
  case true =>
    go_wp2
    go_ret3
    simp only
    exact ⟨_, rfl, Lk.Own.nil _ _, HB3.out⟩
  case false =>
    have HAM := Lib.hid (HAL.out rfl)
    have HF1 := Lib.hid (first_any (.slice A2 ids.length c2) ids 116 #[.pointer (some ⟨w.heap.size + 1, 0, none⟩), .pointer (some ⟨w.heap.size, 0, none⟩)] (fun x => !q (o.getD x.toNat 0)) w3 (HU.out.then HB3.out) HE2.out (fun w' hb x hx => HH.out w' x (w.heap.size + 1) w.heap.size (keep_cell hb c1) (keep_cell hb c0) (Below.call HB3.out hb) (HAM.out x hx).1 (HAM.out x hx).2))
    rw [HY.out] at HF1
    go_wp2_with fail
    refine (HF1.out).mono ?_
    rintro e w4 ⟨rfl, hb4⟩
    have c0 := keep_cell hb4 c0
    have c1 := keep_cell hb4 c1
    have HB4 := Lib.hid (Below.call HB3.out hb4)
    clear hb4 HF1
    cases y2
    case true =>
      go_wp2
      go_ret3
      simp only
      exact ⟨_, rfl, Lk.Own.nil _ _, HB4.out⟩
    case false =>
      have HC := Lib.hid (fun w h => clone_o (.slice A o.length c) o w h (by omega))
      go_wp2_with fail
      refine (HC.out _ (HV.out.then HB4.out)).mono ?_
      rintro e w5 ⟨v5, rfl, ho5, hb5⟩
      have HB5 := Lib.hid (Below.call HB4.out hb5)
      have HO5 := Lib.hid ho5
      have HS4 := Lib.hid HB4.out.size
      clear ho5 hb5 c0 c1
      go_wp2
      go_loopw [56] (fun i wr => ∃ k : Nat, k ≤ ids.length ∧ i = .int .i64 k ∧ KI.Own wr w4.heap.size v5 (setAll o (ids.take k) nx) ∧ Below w.heap.size w wr) (fun i _ => ids.length - (intOf i).toNat)
      case atStart => exact ⟨0, Nat.zero_le _, rfl, HO5.out, HB5.out⟩
      case round =>
        obtain ⟨k, hk, rfl, hown, hbl⟩ := hrel
        have HO := Lib.hid hown
        have HB := Lib.hid hbl
        clear hown hbl
        by_cases hlt : k < ids.length
        · obtain ⟨b, off, cap', hs, _, hb, hl2, hcell, _⟩ := KI.cells (HU.out.then HB.out) (by omega)
          simp only [Value.slice.injEq] at hs
          obtain ⟨rfl, _, rfl⟩ := hs
          have e1 := hcell k hlt
          have hin := HAM.out _ (getD_mem' ids k 0 hlt)
          have HS := Lib.hid (setAll_snoc o (ids.take k) (ids.getD k 0) nx)
          rw [← take_snoc ids k 0 hlt] at HS
          have hsl := setAll_len o (ids.take k) nx
          clear hcell
          generalize ids.getD k 0 = x at *
          obtain ⟨hx0, hx1⟩ := hin
          obtain ⟨j, rfl⟩ := Int.eq_ofNat_of_zero_le hx0
          obtain ⟨g, cp, hv5, hg1, hg2, hg3⟩ := HO.out.shape (by omega)
          rw [hsl] at hv5 hg3
          subst hv5
          obtain ⟨f1, f2⟩ := KI.Own.at HO.out hsl j (by omega)
          generalize (setAll o (ids.take k) nx).getD j 0 = old at *
          go_wp2
          go_roundw
          case rel =>
            have hp := KI.Own.put HO.out hsl j nx hnx
            rw [show ((j : Int)).toNat = j from rfl] at HS
            exact ⟨k + 1, by omega, num_i (by omega), by rw [HS.out]; exact hp.1, HB.out.setCell (Nat.le_trans HS4.out hg1) _⟩
          case measure => simp [intOf]; omega
        · obtain rfl : k = ids.length := by omega
          rw [List.take_length] at HO
          go_wp2
          go_ret3
          simp only
          have e1 := fstN_miss HZ.out
          have e2 := fstN_miss HY.out
          subst e1
          subst e2
          exact ⟨_, rfl, HO.out.mono HS4.out, HB.out⟩
end Go.Proofs.Ytacjonncakhhmaa
