/- Sets made of any list; the first that stands twice. -/
import Derived.Test.YtbflkdkbfidleaaTC
import Derived.Maps.OwnSet
import Derived.Maps.Own
namespace Go.Proofs.Ytbflkdkbfidleaa.Two
open Go.RowKit Go.Maps

theorem law3 : Keyed Try.prog 3 := int_keyed Try.underlying3
theorem zero53 (w : World) : (zeroValue 67).run Try.prog w = .ok (.agg #[]) w := by kernel_rfl
/-- The numbers seen, as the map reads. -/
def sd (l : List Int) : DataW Unit := setOf (.agg []) (l.map (Lit.int .i64))
theorem sd_nil : sd [] = .map [] := rfl
theorem sd_snoc (l : List Int) (x : Int) : sd (l ++ [x]) = (sd l).put (.int .i64 x) (.agg []) := by
  unfold sd
  rw [List.map_append, List.map_cons, List.map_nil, setOf_snoc]
theorem has_sd (l : List Int) (x : Int) : Maps.has (sd l) (.int .i64 x) = decide (x ∈ l) := by
  unfold sd
  rw [has_setOf _ _ _ (by intro y hy; obtain ⟨z, _, rfl⟩ := List.mem_map.1 hy; trivial)]
  rw [List.any_map, Bool.eq_iff_iff, List.any_eq_true, decide_eq_true_eq]
  simp [Lit.sameKey]
theorem fits_wf {n : Int} (h : fits n) : (Lit.int .i64 n).wf = true := by
  unfold fits at h
  simpa [Lit.wf, IntKind.min, IntKind.max, IntKind.signed, IntKind.bits] using h
end Go.Proofs.Ytbflkdkbfidleaa.Two
namespace Go.Proofs.Ytbflkdkbfidleaa.Two
open Go.RowKit

theorem inc_short (l : List Int) (h : l.length ≤ 1) : Inc l := by
  match l, h with
  | [], _ => exact inc_nil
  | [x], _ => exact List.pairwise_singleton _ _
theorem mk_halves (l : List Int) (k : Nat) : mk (mk (l.take k) ++ mk (l.drop k)) = mk l := mk_of (inc_mk _) fun x => by
  rw [mem_mk, List.mem_append, mem_mk, mem_mk, ← List.mem_append, List.take_append_drop]
set_option maxRecDepth 100000 in
set_option maxHeartbeats 1000000 in
theorem from_all : ∀ (n : Nat) (v : Value) (xs : List Int), xs.length ≤ n → xs.length ≤ 1000 → ∀ w : World, IsL w w.heap.size v xs →
    Calls Try.prog 58 #[v] w fun e w' => ∃ v, e = .returned v ∧ IsL w' w'.heap.size v (mk xs) ∧ Below w.heap.size w w' := by
  intro n
  induction n with
  | zero =>
    intro v xs hn hl w h
    obtain rfl : xs = [] := List.eq_nil_of_length_eq_zero (by omega)
    have HR := Lib.hid (right_any v [] w h)
    have HV := Lib.hid h
    clear h
    go_enter Try.func58, Try.ntmps58
    go_wp2_with fail
    refine (HR.out).mono ?_
    rintro e w' ⟨rfl, d, rfl⟩
    rw [show decide (Inc []) = true from by decide]
    go_wp2_with (at_builtin; refine wpList_app _ rfl _ _ rfl w.heap.size w.heap.size _ _ [] [] rfl rfl (Own.nil _ _) HV.out (by simp) (Nat.le_refl _) ?_)
    intro v1 w1 hown hgrow _
    have hb1 := Own.grow' (Own.nil (w.drewN d) w.heap.size) (below_drewN (Below.refl _ _) d) (Nat.le_refl _) hgrow
    have H1 := Lib.hid (hown.isL (by simp))
    have H2 := Lib.hid hb1
    clear hown hgrow hb1
    go_wp2
    go_ret
    exact ⟨_, rfl, H1.out, H2.out⟩
  | succ n ih =>
    intro v xs hn hl w h
    have IH := Lib.hid ih
    have HR := Lib.hid (right_any v xs w h)
    have HV := Lib.hid h
    clear ih
    by_cases hi : Inc xs
    · have hd : decide (Inc xs) = true := decide_eq_true hi
      rw [hd] at HR
      have HM := Lib.hid (mk_inc hi)
      clear h hd hi
      go_enter Try.func58, Try.ntmps58
      go_wp2_with fail
      refine (HR.out).mono ?_
      rintro e w' ⟨rfl, d, rfl⟩
      go_wp2_with (at_builtin; refine wpList_app _ rfl _ _ rfl w.heap.size w.heap.size _ _ [] xs rfl rfl (Own.nil _ _) HV.out (by simp; omega) (Nat.le_refl _) ?_)
      intro v1 w1 hown hgrow _
      have hb1 := Own.grow' (Own.nil (w.drewN d) w.heap.size) (below_drewN (Below.refl _ _) d) (Nat.le_refl _) hgrow
      have H1 := Lib.hid (hown.isL (by omega))
      have H2 := Lib.hid hb1
      clear hown hgrow hb1
      go_wp2
      go_ret
      exact ⟨_, rfl, by rw [HM.out]; exact H1.out, H2.out⟩
    · have h2 : 2 ≤ xs.length := by
        rcases Nat.lt_or_ge xs.length 2 with h | h
        · exact absurd (inc_short xs (by omega)) hi
        · exact h
      have hd : decide (Inc xs) = false := decide_eq_false hi
      rw [hd] at HR
      clear hi hd
      obtain ⟨⟨A, cap, rfl, hcap, hA⟩, hfit, hlen⟩ := h
      obtain ⟨b, off, rfl, hb, hcell⟩ := hA (by omega)
      obtain ⟨hf, hhf, hf1, hf2⟩ : ∃ hf : Nat, (xs.length : Int) / 2 = (hf : Int) ∧ 1 ≤ hf ∧ hf < xs.length ∧ hf ≤ n ∧ xs.length - hf ≤ n := ⟨xs.length / 2, by omega, by omega, by omega, by omega, by omega⟩
      have HT := Lib.hid (IsL.takeLit (cap := cap) hb hcell hfit (hf) (by omega) (by omega) hlen)
      have HD := Lib.hid (IsL.dropIf (cap := cap) hb hcell hfit (hf) (by omega) hcap hlen)
      have HD2 := Lib.hid (IsL.dropLit (cap := cap) hb hcell hfit (hf) (by omega) hcap hlen).2
      have ht : (xs.take (hf)).length = hf := by rw [List.length_take]; omega
      have hdl : (xs.drop (hf)).length = xs.length - hf := List.length_drop
      have HF1 := Lib.hid (fun (W : World) (hW : Below w.heap.size w W) => IH.out _ (xs.take (hf)) (by omega) (by omega) W ((HT.out.below hW).more hW.size))
      have HF2 := Lib.hid (fun (W : World) (hW : Below w.heap.size w W) => IH.out _ (xs.drop (hf)) (by omega) (by omega) W ((HD.out.below hW).more hW.size))
      have HF3 := Lib.hid (fun (W : World) (hW : Below w.heap.size w W) => IH.out _ (xs.drop (hf)) (by omega) (by omega) W ((HD2.out.below hW).more hW.size))
      have hml1 := mk_len_le (xs.take (hf))
      have hml2 := mk_len_le (xs.drop (hf))
      have HEI := Lib.hid (fun (a c : Value) (W : World) (h1 : IsL W W.heap.size a (mk (xs.take (hf)))) (h2 : IsL W W.heap.size c (mk (xs.drop (hf)))) => either_any a c _ _ W h1 h2 (by omega) (inc_mk _) (inc_mk _))
      have HMK := Lib.hid (mk_halves xs (hf))
      have i1 : (0 : Int) ≤ (hf : Int) := by omega
      have i2 : (hf : Int) ≤ (xs.length : Int) := by omega
      have i3 : (hf : Int) ≤ (cap : Int) := by omega
      have i4 : ¬ cap = hf := by omega
      clear hA hfit hcell ht hdl hml1 hml2
      go_enter Try.func58, Try.ntmps58
      go_wp2_with fail
      refine (HR.out).mono ?_
      rintro e w' ⟨rfl, d, rfl⟩
      have HW0 := Lib.hid (below_drewN (Below.refl w.heap.size w) (d + 1))
      go_wp2
      go_region_with (first
        | (go_at_call 58; with_reducible refine (HF1.out _ HW0.out).mono ?_; rintro e w1 ⟨v1, rfl, hv1, hb1⟩
           have HV1 := Lib.hid hv1
           have HB1 := Lib.hid (HW0.out.trans (hb1.mono (Nat.le_refl _)))
           clear hv1 hb1)
        | (go_at_call 58; first | with_reducible refine (HF2.out _ HB1.out).mono ?_ | with_reducible refine (HF3.out _ HB1.out).mono ?_
           rintro e w2 ⟨v2, rfl, hv2, hb2⟩
           have HV2 := Lib.hid hv2
           have HV1' := Lib.hid ((HV1.out.below hb2).more hb2.size)
           have HB2 := Lib.hid (HB1.out.trans (hb2.mono HB1.out.size))
           clear hv2 hb2)
        | (go_at_call 67; with_reducible refine (HEI.out _ _ _ HV1'.out HV2.out).mono ?_; rintro e w3 ⟨v3, rfl, hv3, hb3⟩
           have HV3 := Lib.hid hv3
           have HB3 := Lib.hid (HB2.out.trans (hb3.mono HB2.out.size))
           clear hv3 hb3))
      all_goals
        go_wp2
        go_ret
        exact ⟨_, rfl, by rw [← HMK.out]; exact HV3.out, HB3.out⟩
theorem from_any (v : Value) (xs : List Int) (w : World) (h : IsL w w.heap.size v xs) (hl : xs.length ≤ 1000) :
    Calls Try.prog 58 #[v] w fun e w' => ∃ v, e = .returned v ∧ IsL w' w'.heap.size v (mk xs) ∧ Below w.heap.size w w' := from_all xs.length v xs (Nat.le_refl _) hl w h
end Go.Proofs.Ytbflkdkbfidleaa.Two
