/- Spans put together: the program's Join, by halves. -/
import Derived.Test.YtchnljdijmgnfaaPJ
namespace Go.Proofs.Ytchnljdijmgnfaa
open Go.RowKit
def Joined (w : World) (xs : List (Int × Int)) (e : Ending) (w' : World) : Prop := ∃ v r, e = .returned v ∧ JoinR xs r ∧ IsL w' w'.heap.size v r ∧ Below w.heap.size w w' ∧ ∀ q, v.ownBlock = some q → w.heap.size ≤ q

set_option maxHeartbeats 1000000 in
theorem join_0 (A : Option Addr) (cap : Nat) (w : World) : Calls Try.prog 20 #[.slice A 0 cap] w (Joined w []) := by
  go_enter Try.func20, Try.ntmps20
  go_wp2
  go_ret
  exact ⟨_, [], rfl, JoinR.nil, IsL.nil _ _ _ _, Below.refl _ _, fun q hq => by cases hq⟩
set_option maxHeartbeats 1000000 in
theorem join_1 (b off cap : Nat) (x : Int × Int) (hf : fits x.1 ∧ fits x.2) (w : World) (hb : b < w.heap.size) (hc1 : w.cell? ⟨b, off, none⟩ = some (.int .i64 x.1)) (hc2 : w.cell? ⟨b, off + 1, none⟩ = some (.int .i64 x.2)) :
    Calls Try.prog 20 #[.slice (some ⟨b, off, none⟩) 1 cap] w (Joined w [x]) := by
  have HF := Lib.hid hf
  clear hf
  by_cases he : x.2 < x.1
  · have HE := Lib.hid (JoinR.none he)
    have hd : decide (x.2 < x.1) = true := by simpa using he
    go_enter Try.func20, Try.ntmps20
    go_wp2_with fail
    refine (empty_any _ _ _).mono ?_
    rintro e w1 ⟨rfl, hb1⟩
    have HB1 := Lib.hid hb1
    clear hb1
    go_wp2
    go_ret
    exact ⟨_, [], rfl, HE.out, IsL.nil _ _ _ _, HB1.out, fun q hq => by cases hq⟩
  · have HE := Lib.hid (JoinR.one (x := x) (by omega))
    have hd : decide (x.2 < x.1) = false := by simpa using he
    go_enter Try.func20, Try.ntmps20
    go_wp2_with fail
    refine (empty_any _ _ _).mono ?_
    rintro e w1 ⟨rfl, hb1⟩
    have hq1 : w1.cell? ⟨b, off, none⟩ = some (.int .i64 x.1) := (hb1.cell (p := ⟨b, off, none⟩) hb).trans hc1
    have hq2 : w1.cell? ⟨b, off + 1, none⟩ = some (.int .i64 x.2) := (hb1.cell (p := ⟨b, off + 1, none⟩) hb).trans hc2
    have HB1 := Lib.hid hb1
    clear hb1
    go_wp2
    go_ret
    exact ⟨_, [x], rfl, HE.out, by have h := (Own.lit w1 w1.heap.size x.1 x.2 HF.out.1 HF.out.2 (Nat.le_refl _)).isL (by simp); exact h, HB1.out.alloc HB1.out.size _, fun q hq => by have e : w1.heap.size = q := Option.some.inj hq; subst e; exact HB1.out.size⟩
set_option maxHeartbeats 1000000 in
theorem join_all : ∀ (n : Nat) (v : Value) (xs : List (Int × Int)), xs.length ≤ n → xs.length ≤ 1000 → ∀ w : World, IsL w w.heap.size v xs →
    Calls Try.prog 20 #[v] w (Joined w xs) := by
  intro n
  induction n with
  | zero =>
    intro v xs hn hl w h
    obtain rfl : xs = [] := List.eq_nil_of_length_eq_zero (by omega)
    obtain ⟨⟨A, cap, rfl, hcap, hA⟩, hfit, hlen⟩ := h
    exact join_0 A cap w
  | succ n ih =>
    intro v xs hn hl w h
    rcases Nat.lt_or_ge xs.length 2 with h2 | h2
    · obtain ⟨⟨A, cap, rfl, hcap, hA⟩, hfit, hlen⟩ := h
      match xs, h2 with
      | [], _ => exact join_0 A cap w
      | [x], _ =>
        obtain ⟨b, off, rfl, hb, hcell⟩ := hA (by simp)
        have h3 := hcell 0 (by simp)
        exact join_1 b off cap x (hfit x (by simp)) w hb h3.1 h3.2
    · have IH := Lib.hid ih
      clear ih
      obtain ⟨⟨A, cap, rfl, hcap, hA⟩, hfit, hlen⟩ := h
      obtain ⟨b, off, rfl, hb, hcell⟩ := hA (by omega)
      obtain ⟨hf, hhf, hf1, hf2⟩ : ∃ hf : Nat, (xs.length : Int) / 2 = (hf : Int) ∧ 1 ≤ hf ∧ hf < xs.length ∧ hf ≤ n ∧ xs.length - hf ≤ n := ⟨xs.length / 2, by omega, by omega, by omega, by omega, by omega⟩
      have HT := Lib.hid (IsL.takeLit (cap := cap) hb hcell hfit (hf) (by omega) (by omega) hlen)
      have HD := Lib.hid (IsL.dropIf (cap := cap) hb hcell hfit (hf) (by omega) hcap hlen ⟨b, off + hf * 2, none⟩ (fun _ => rfl))
      have ht : (xs.take (hf)).length = hf := by rw [List.length_take]; omega
      have hdl : (xs.drop (hf)).length = xs.length - hf := List.length_drop
      have HF1 := Lib.hid (fun (W : World) (hW : Below w.heap.size w W) => IH.out _ (xs.take (hf)) (by omega) (by omega) W ((HT.out.below hW).more hW.size))
      have HF2 := Lib.hid (fun (W : World) (hW : Below w.heap.size w W) => IH.out _ (xs.drop (hf)) (by omega) (by omega) W ((HD.out.below hW).more hW.size))
      have HEI := Lib.hid (fun (a c : Value) (r1 r2 : List (Int × Int)) (W : World) (j1 : JoinR (xs.take hf) r1) (j2 : JoinR (xs.drop hf) r2) (h1 : IsL W W.heap.size a r1) (h2 : IsL W W.heap.size c r2) => merge_any a c r1 r2 W h1 h2 j1.norm j2.norm (by have := j1.len; have := j2.len; omega))
      have HMK := Lib.hid (fun (r1 r2 m : List (Int × Int)) (j1 : JoinR (xs.take hf) r1) (j2 : JoinR (xs.drop hf) r2) (hm : Mrg r1 r2 m r1.length r2.length) => show JoinR xs m from List.take_append_drop hf xs ▸ hm.done j1 j2)
      have i1 : (0 : Int) ≤ (hf : Int) := by omega
      have i2 : (hf : Int) ≤ (xs.length : Int) := by omega
      have i3 : (hf : Int) ≤ (cap : Int) := by omega
      have i4 : ¬ cap = hf := by omega
      have i5 : ((xs.length : Int) == 0) = false := by (rw [beq_eq_false_iff_ne]; omega)
      have i6 : ((xs.length : Int) == 1) = false := by (rw [beq_eq_false_iff_ne]; omega)
      clear hA hfit hcell ht hdl
      go_enter Try.func20, Try.ntmps20
      go_wp2
      have HW0 := Lib.hid (Below.refl w.heap.size w).drew
      go_region_with (first
        | (go_at_call 20; (with_reducible refine (HF1.out _ HW0.out).mono ?_); rintro e w1 ⟨v1, r1, rfl, hj1, hv1, hb1, _⟩
           have HJ1 := Lib.hid hj1
           have HV1 := Lib.hid hv1
           have HB1 := Lib.hid (HW0.out.trans (hb1.mono (Nat.le_refl _)))
           clear hj1 hv1 hb1)
        | (go_at_call 20; (with_reducible refine (HF2.out _ HB1.out).mono ?_)
           rintro e w2 ⟨v2, r2, rfl, hj2, hv2, hb2, _⟩
           have HJ2 := Lib.hid hj2
           have HV2 := Lib.hid hv2
           have HV1' := Lib.hid ((HV1.out.below hb2).more hb2.size)
           have HB2 := Lib.hid (HB1.out.trans (hb2.mono HB1.out.size))
           clear hj2 hv2 hb2)
        | (go_at_call 41; (with_reducible refine (HEI.out _ _ _ _ _ HJ1.out HJ2.out HV1'.out HV2.out).mono ?_); rintro e w3 ⟨v3, m3, rfl, hm3, hv3, hb3, hn3⟩
           have HM3 := Lib.hid hm3
           have HV3 := Lib.hid hv3
           have HB3 := Lib.hid (HB2.out.trans (hb3.mono HB2.out.size))
           have HN3 := Lib.hid hn3
           clear hm3 hv3 hb3 hn3))
      all_goals
        go_wp2
        go_ret
        exact ⟨_, _, rfl, HMK.out _ _ _ HJ1.out HJ2.out HM3.out, HV3.out, HB3.out, fun q hq => Nat.le_trans HB2.out.size (HN3.out q hq)⟩
theorem join_any (v : Value) (xs : List (Int × Int)) (w : World) (h : IsL w w.heap.size v xs) (hl : xs.length ≤ 1000) : Calls Try.prog 20 #[v] w (Joined w xs) := join_all xs.length v xs (Nat.le_refl _) hl w h
end Go.Proofs.Ytchnljdijmgnfaa
