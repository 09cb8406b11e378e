/- Owners: lists of the call's own written at a place, lists copied, and what is handed on to be asked. -/
import Derived.Test.YtacjonncakhhmaaOB
import Derived.Test.YtacjonncakhhmaaTB
import Derived.Test.YtacjonncakhhmaaHC
namespace Go.Proofs.Ytacjonncakhhmaa
open Go.RowKit

theorem two_of {w : World} {B : Nat} {v : Value} {xs : List Int} (h : KI.IsL w B v xs) : Two.IsL w B v xs := by
  obtain ⟨⟨A, cap, hv, hc, hA⟩, hf, hl⟩ := h
  refine ⟨⟨A, cap, hv, hc, fun h0 => ?_⟩, hf, hl⟩
  obtain ⟨b, off, e, hb, hcell⟩ := hA h0
  refine ⟨b, off, e, hb, fun i hi => ?_⟩
  have := hcell i hi 0 (.int .i64 (xs.getD i 0)) rfl
  simpa [KI] using this
theorem of_two {w : World} {B : Nat} {v : Value} {xs : List Int} (h : Two.IsL w B v xs) : KI.IsL w B v xs := by
  obtain ⟨⟨A, cap, hv, hc, hA⟩, hf, hl⟩ := h
  refine ⟨⟨A, cap, hv, hc, fun h0 => ?_⟩, hf, hl⟩
  obtain ⟨b, off, e, hb, hcell⟩ := hA h0
  refine ⟨b, off, e, hb, fun i hi j u hu => ?_⟩
  have hj : j = 0 := by
    have := (List.getElem?_eq_some_iff.1 hu).1
    simp [KI] at this
    exact this
  subst hj
  simp only [KI, List.getElem?_cons_zero, Option.some.injEq] at hu
  subst hu
  have := hcell i hi
  simpa [KI] using this
/-- What an own slice is, as it stands. -/
theorem Lk.Own.shape {P : Program} {α : Type} {K : Lk P α} {w : World} {base : Nat} {v : Value} {xs : List α} (h : K.Own w base v xs) (h0 : 0 < xs.length) : ∃ g cap, v = .slice (some ⟨g, 0, none⟩) xs.length cap ∧ base ≤ g ∧ g < w.heap.size ∧ xs.length ≤ cap := by
  obtain ⟨⟨h1, h2⟩, hf⟩ := h
  rcases h2 with ⟨_, hn⟩ | ⟨g, cap, cur, rfl, hb2, hg, hn, _⟩
  · omega
  · exact ⟨g, cap, rfl, hb2, (Array.getElem?_eq_some_iff.1 hg).1, hn⟩
theorem KI.flat_at (xs : List Int) : KI.flat xs = xs.map fun x => Value.int .i64 x := by
  induction xs with
  | nil => rfl
  | cons x r ih => show Value.int .i64 x :: KI.flat r = _; rw [ih]; rfl
/-- A number of an own list is written. -/
theorem KI.Own.put {w : World} {B g n c : Nat} {ys : List Int} (h : KI.Own w B (.slice (some ⟨g, 0, none⟩) n c) ys) (hn : ys.length = n) (k : Nat) (x : Int) (hx : fits x) :
    KI.Own (w.setCell ⟨g, k, none⟩ (.int .i64 x)) B (.slice (some ⟨g, 0, none⟩) n c) (ys.set k x) ∧ w.grownBy (w.setCell ⟨g, k, none⟩ (.int .i64 x)) (some g) := by
  obtain ⟨h1, h2⟩ := h
  have q := World.ownsRow.stored (n := n) (by rw [hn] at h1; exact h1) k (.int .i64 x)
  refine ⟨⟨?_, fun q hq => ?_⟩, q.2⟩
  · rw [KI.flat_at] at q ⊢
    rw [List.length_set, hn, List.map_set]
    exact q.1
  · rcases List.mem_or_eq_of_mem_set hq with hq | rfl
    · exact h2 q hq
    · exact hx
theorem KI.Own.at {w : World} {B g n c : Nat} {ys : List Int} (h : KI.Own w B (.slice (some ⟨g, 0, none⟩) n c) ys) (hn : ys.length = n) (k : Nat) (hk : k < n) : w.cell? ⟨g, k, none⟩ = some (.int .i64 (ys.getD k 0)) ∧ w.frozen? ⟨g, k, none⟩ = false := by
  obtain ⟨h1, h2⟩ := h
  rw [hn] at h1
  refine ⟨?_, h1.frozenAt k⟩
  have := h1.cellAt k (by show k < n * 1; omega)
  rw [this, KI.flat_at, List.getElem?_map, List.getD_eq_getElem?_getD, List.getElem?_eq_getElem (by omega)]
  rfl

set_option maxRecDepth 100000 in
set_option maxHeartbeats 2000000 in
theorem clone_o (v : Value) (o : List Int) (w : World) (hv : KI.IsL w w.heap.size v o) (hl : o.length ≤ 100000) : Calls Try.prog 117 #[v] w fun e w' => ∃ v', e = .returned v' ∧ KI.Own w' w.heap.size v' o ∧ Below w.heap.size w w' := by
  have HV := Lib.hid hv
  have q : ∀ (w : World) (a : Option Addr) (n c n' c' : Nat), (binOp .eql 56 (.slice a n c) (.slice none n' c')).run Try.prog w = .ok (.bool a.isNone) w := fun w a n c n' c' => Lib.run_eql_slice_nil w _ _ a n c n' c' Try.underlying56
  obtain ⟨A, c, rfl, hc⟩ := hv.shape
  clear hv
  match A with
  | none =>
    have h0 : o.length = 0 := by
      rcases Nat.eq_zero_or_pos o.length with h | h
      · exact h
      · obtain ⟨b, off, e, _⟩ := HV.out.elem h
        cases e
    obtain rfl := List.eq_nil_of_length_eq_zero h0
    clear HV h0 hc
    simp only [List.length_nil]
    go_enter Try.func117, Try.ntmps117
    go_wp2
    go_ret
    exact ⟨_, rfl, Lk.Own.nil _ _, Below.refl _ _⟩
  | some a =>
    go_enter Try.func117, Try.ntmps117
    go_wp2_with (at_builtin; refine Lk.wpList_app (K := KI) _ rfl _ _ rfl rfl w.heap.size w.heap.size _ _ [] o rfl rfl (Lk.Own.made w w.heap.size 0 #[] (Nat.le_refl _) (by unfold maxLen; omega) rfl) (HV.out.below (Below.al (Below.refl _ w) _)) ?c1 ?c2 ?_)
    case c1 => simp; omega
    case c2 => simp
    intro v1 w4 hown hgrow _
    have HB4 := Lib.hid (Lk.Own.grow' (K := KI) (Lk.Own.made w w.heap.size 0 #[] (Nat.le_refl _) (by unfold maxLen; omega) rfl) (Below.al (Below.refl _ w) _) (by simp) hgrow)
    have HO4 := Lib.hid hown
    clear hown hgrow
    go_wp2
    go_ret
    exact ⟨_, rfl, by simpa using HO4.out, HB4.out⟩

theorem pass2_take (x z who : Int) (b1 b0 bw : Nat) (v : Value) (o : List Int) (w : World) (h1 : w.cell? ⟨b1, 0, none⟩ = some (.func (.func 68) #[] #[.pointer (some ⟨bw, 0, none⟩)])) (h2 : w.cell? ⟨bw, 0, none⟩ = some (.int .i64 who)) (h0 : w.cell? ⟨b0, 0, none⟩ = some v)
    (hv : KI.IsL w w.heap.size v o) (hx : 0 ≤ x) (hx2 : x < o.length) (hz : o.getD x.toNat 0 = z) : Calls Try.prog 116 #[.int .i64 x, .pointer (some ⟨b1, 0, none⟩), .pointer (some ⟨b0, 0, none⟩)] w fun e w' => e = .returned (.bool (!(decide (z = 0) || decide (z = who)))) ∧ Below w.heap.size w w' := by
  obtain ⟨j, rfl⟩ := Int.eq_ofNat_of_zero_le hx
  obtain ⟨b, off, cap, rfl, hc, hb, hl, hcell, hf⟩ := KI.cells hv (by omega)
  have e1 := hcell j (by omega)
  rw [show ((j : Int)).toNat = j from rfl] at hz
  rw [hz] at e1
  have HA := Lib.hid (fun n => take1_any z who bw (w.drewN n) h2)
  clear hz hcell hf hv h2
  generalize (decide (z = 0) || decide (z = who)) = q at *
  go_enter Try.func116, Try.ntmps116
  go_wp2_with fail
  go_quiet ((go_at_call 68; exact Calls.quiet_of_same ((HA.out _).mono fun _ _ q => ⟨q.1, q.2.symm⟩)))
  go_wp2
  go_ret
  exact ⟨rfl, below_drewN (Below.refl _ _) _⟩
theorem pass2_give (x z who : Int) (b1 b0 bw : Nat) (v : Value) (o : List Int) (w : World) (h1 : w.cell? ⟨b1, 0, none⟩ = some (.func (.func 75) #[] #[.pointer (some ⟨bw, 0, none⟩)])) (h2 : w.cell? ⟨bw, 0, none⟩ = some (.int .i64 who)) (h0 : w.cell? ⟨b0, 0, none⟩ = some v)
    (hv : KI.IsL w w.heap.size v o) (hx : 0 ≤ x) (hx2 : x < o.length) (hz : o.getD x.toNat 0 = z) : Calls Try.prog 116 #[.int .i64 x, .pointer (some ⟨b1, 0, none⟩), .pointer (some ⟨b0, 0, none⟩)] w fun e w' => e = .returned (.bool (!decide (z = who))) ∧ Below w.heap.size w w' := by
  obtain ⟨j, rfl⟩ := Int.eq_ofNat_of_zero_le hx
  obtain ⟨b, off, cap, rfl, hc, hb, hl, hcell, hf⟩ := KI.cells hv (by omega)
  have e1 := hcell j (by omega)
  rw [show ((j : Int)).toNat = j from rfl] at hz
  rw [hz] at e1
  have HA := Lib.hid (fun n => give1_any z who bw (w.drewN n) h2)
  clear hz hcell hf hv h2
  generalize decide (z = who) = q at *
  go_enter Try.func116, Try.ntmps116
  go_wp2_with fail
  go_quiet ((go_at_call 75; exact Calls.quiet_of_same ((HA.out _).mono fun _ _ q => ⟨q.1, q.2.symm⟩)))
  go_wp2
  go_ret
  exact ⟨rfl, below_drewN (Below.refl _ _) _⟩
def lkB (o : List Int) (who x : Int) : Bool := !hasB o.length x || !decide (o.getD x.toNat 0 = who)
theorem lacks1_any (x who : Int) (b0 bw : Nat) (v : Value) (o : List Int) (w : World) (h2 : w.cell? ⟨bw, 0, none⟩ = some (.int .i64 who)) (h0 : w.cell? ⟨b0, 0, none⟩ = some v)
    (hv : KI.IsL w w.heap.size v o) : Calls Try.prog 76 #[.int .i64 x, .pointer (some ⟨b0, 0, none⟩), .pointer (some ⟨bw, 0, none⟩)] w fun e w' => e = .returned (.bool (lkB o who x)) ∧ Below w.heap.size w w' := by
  obtain ⟨A, c, rfl, hc⟩ := hv.shape
  have e : lkB o who x = (!hasB o.length x || !decide (o.getD x.toNat 0 = who)) := rfl
  have HA := Lib.hid (fun n => has_o A o.length c x (w.drewN n))
  by_cases hh : 0 ≤ x ∧ x < o.length
  · have e2 : hasB o.length x = true := by unfold hasB; rw [decide_eq_true hh.1, decide_eq_true hh.2]; rfl
    rw [e2] at e HA
    simp only [Bool.not_true, Bool.false_or] at e
    rw [e]
    obtain ⟨hx, hx2⟩ := hh
    obtain ⟨j, rfl⟩ := Int.eq_ofNat_of_zero_le hx
    obtain ⟨b, off, cap, hs, hc, hb, hl, hcell, hf⟩ := KI.cells hv (by omega)
    simp only [Value.slice.injEq] at hs
    obtain ⟨rfl, _, rfl⟩ := hs
    have e1 := hcell j (by omega)
    rw [show ((j : Int)).toNat = j from rfl]
    clear hcell hf hv e e2
    generalize o.getD j 0 = z at *
    go_enter Try.func76, Try.ntmps76
    go_wp2_with fail
    go_quiet ((go_at_call 77; exact Calls.quiet_of_same ((HA.out _).mono fun _ _ q => ⟨q.1, q.2.symm⟩)))
    go_wp2
    go_ret
    exact ⟨ret_b (by rw [Bool.eq_iff_iff]; simp), below_drewN (Below.refl _ _) _⟩
  · have e2 : hasB o.length x = false := by unfold hasB; rw [Bool.and_eq_false_iff, decide_eq_false_iff_not, decide_eq_false_iff_not]; omega
    rw [e2] at e HA
    simp only [Bool.not_false, Bool.true_or] at e
    rw [e]
    clear e e2 hv
    go_enter Try.func76, Try.ntmps76
    go_wp2_with fail
    go_quiet ((go_at_call 77; exact Calls.quiet_of_same ((HA.out _).mono fun _ _ q => ⟨q.1, q.2.symm⟩)))
    go_wp2
    go_ret
    exact ⟨rfl, below_drewN (Below.refl _ _) _⟩
end Go.Proofs.Ytacjonncakhhmaa
