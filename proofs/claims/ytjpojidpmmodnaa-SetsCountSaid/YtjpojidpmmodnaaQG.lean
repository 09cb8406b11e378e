/- The place of the first number that was there already: the program's Twice, with its map. -/
import Derived.Test.YtjpojidpmmodnaaQF
import Derived.Maps.OwnSet
import Derived.Maps.Own
namespace Go.Proofs.Ytjpojidpmmodnaa
open Go.RowKit Go.Maps

theorem law3 : Keyed Try.prog 3 := int_keyed Try.underlying3
theorem zero53 (w : World) : (zeroValue 53).run Try.prog w = .ok (.agg #[]) w := by kernel_rfl
/-- The numbers seen, as the map reads. -/
def sd (l : List Int) : DataW Unit := setOf (.agg []) (l.map (Lit.int .i64))
theorem sd_nil : sd [] = .map [] := rfl
theorem sd_snoc (l : List Int) (x : Int) : sd (l ++ [x]) = (sd l).put (.int .i64 x) (.agg []) := by
  unfold sd
  rw [List.map_append, List.map_cons, List.map_nil, setOf_snoc]
theorem has_sd (l : List Int) (x : Int) : Maps.has (sd l) (.int .i64 x) = decide (x ∈ l) := by
  unfold sd
  rw [has_setOf _ _ _ (by intro y hy; obtain ⟨z, _, rfl⟩ := List.mem_map.1 hy; trivial)]
  rw [List.any_map, Bool.eq_iff_iff, List.any_eq_true, decide_eq_true_eq]
  simp [Lit.sameKey]
theorem fits_wf {n : Int} (h : fits n) : (Lit.int .i64 n).wf = true := by
  unfold fits at h
  simpa [Lit.wf, IntKind.min, IntKind.max, IntKind.signed, IntKind.bits] using h
set_option maxHeartbeats 2000000 in
set_option maxRecDepth 100000 in
theorem twice_any (v : Value) (xs : List Int) (w : World) (h : IsL w w.heap.size v xs) (hl : xs.length ≤ 1000000) : Calls Try.prog 36 #[v] w fun e w' => (∃ t, e = .returned (.int .i64 t) ∧ Tw xs t) ∧ Below w.heap.size w w' := by
  have hmm := @run_makeMap Try.prog
  obtain ⟨⟨A, cap, rfl, hcap, hA⟩, hfit, hlen⟩ := h
  have HA := Lib.hid hA
  have HF := Lib.hid hfit
  clear hA hfit
  go_enter Try.func36, Try.ntmps36
  go_wp2
  go_loopw [11] (fun i wr => ∃ k : Nat, k ≤ xs.length ∧ (∀ j, j < k → xs.getD j 0 ∉ xs.take j) ∧ i = .int .i64 (k : Int) ∧ wr.ownsMap Try.prog 3 unitElem w.heap.size k (sd (xs.take k)) ∧ Below w.heap.size w wr) (fun i _ => xs.length - (intOf i).toNat)
  case atStart => exact ⟨0, Nat.zero_le _, fun j hj => absurd hj (by omega), rfl, World.ownsMap_made _ _ _ _, (Below.refl _ _).alloc (Nat.le_refl _) _⟩
  case round =>
    obtain ⟨k, hk, hno, rfl, hown, hbel⟩ := hrel
    have HN := Lib.hid hno
    have HO := Lib.hid hown
    have HL := Lib.hid hbel
    clear hno
    by_cases hlt : k < xs.length
    · obtain ⟨b, off, rfl, hbB, hcell⟩ := HA.out (by omega)
      have hx : wr.cell? ⟨b, off + k, none⟩ = some (.int .i64 (xs.getD k 0)) := (hbel.cell (p := ⟨b, off + k, none⟩) hbB).trans (hcell k hlt)
      have hkey : keyOf Try.prog 3 (.int .i64 (xs.getD k 0)) = some (.int .i64 (xs.getD k 0)) := keyOf_int_mk Try.underlying3 (fits_wf (getD_fits HF.out k))
      have hhas := has_sd (xs.take k) (xs.getD k 0)
      have HTK := Lib.hid (show sd (xs.take (k + 1)) = (sd (xs.take k)).put (.int .i64 (xs.getD k 0)) (.agg []) by rw [take_getD xs k hlt, sd_snoc])
      have HK := Lib.hid hkey
      clear hcell hbel hown hkey
      by_cases hm : xs.getD k 0 ∈ xs.take k
      · rw [decide_eq_true hm] at hhas
        have HM := Lib.hid hm
        clear hm
        generalize hxx : xs.getD k 0 = x at *
        have HXX := Lib.hid hxx
        clear hxx
        go_wp2_with (at_lookup; refine wpList_lookup_own_unit _ rfl _ _ 52 rfl 3 53 law3 Try.underlying52 (zero53 _) w.heap.size k _ rfl HO.out _ _ rfl HK.out ?_)
        go_ret
        exact ⟨⟨_, rfl, Or.inr ⟨k, hlt, rfl, by rw [HXX.out]; exact HM.out, HN.out⟩⟩, HL.out.alloc HL.out.size _⟩
      · rw [decide_eq_false hm] at hhas
        have HM := Lib.hid hm
        clear hm
        generalize hxx : xs.getD k 0 = x at *
        have HXX := Lib.hid hxx
        clear hxx
        go_wp2_with (first
          | (at_lookup; refine wpList_lookup_own_unit _ rfl _ _ 52 rfl 3 53 law3 Try.underlying52 (zero53 _) w.heap.size k _ rfl HO.out _ _ rfl HK.out ?_)
          | (at_mapUpdate; refine wpList_mapUpdate_own _ rfl _ _ _ 52 rfl 3 53 law3 Try.underlying52 (unitElem (H := Unit)) w.heap.size k _ rfl (HO.out.alloc _) (by unfold maxLen; omega) _ _ _ rfl rfl HK.out _ [] unitElem_mk ?_; intro w1 hown1 hgrow1))
        have H1 := Lib.hid hown1
        have H2 := Lib.hid ((HL.out.alloc HL.out.size (.cells #[] 53)).grown hgrow1 (by have := HL.out.size; simp; omega) (fun j hj => by cases hj; exact Nat.le_refl _))
        clear hown1 hgrow1
        go_roundw
        case rel =>
          refine ⟨k + 1, by omega, fun j hj => ?_, num_i (by omega), by rw [HTK.out]; exact H1.out, H2.out⟩
          rcases Nat.lt_or_ge j k with h | h
          · exact HN.out j h
          · obtain rfl : j = k := by omega
            rw [HXX.out]
            exact HM.out
        case measure => simp [intOf]; omega
    · obtain rfl : k = xs.length := by omega
      clear hbel hown
      go_wp2
      go_ret
      exact ⟨⟨_, rfl, Or.inl ⟨rfl, HN.out⟩⟩, HL.out⟩

end Go.Proofs.Ytjpojidpmmodnaa
