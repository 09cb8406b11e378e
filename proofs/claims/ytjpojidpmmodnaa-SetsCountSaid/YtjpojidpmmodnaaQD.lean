/- The reference's sets: the set of a list, what is in one of two, in both, in the one alone. -/
import Derived.Test.YtjpojidpmmodnaaQC
import Derived.Test.YtjpojidpmmodnaaPA
namespace Go.Proofs.Ytjpojidpmmodnaa
open Go.RowKit

theorem put_len (s : List Int) (n : Int) : (put s n).length ≤ s.length + 1 := by
  induction s with
  | nil => simp [put]
  | cons y r ih =>
    rw [put]
    split
    · rw [List.length_cons, List.length_cons]; omega
    · split <;> simp
theorem foldl_put_len (l : List Int) : ∀ s : List Int, (l.foldl put s).length ≤ s.length + l.length := by
  induction l with
  | nil => intro s; simp
  | cons y r ih =>
    intro s
    have h1 := ih (put s y)
    have h2 := put_len s y
    rw [List.foldl_cons, List.length_cons]
    omega
set_option maxHeartbeats 2000000 in
theorem rfrom_any (v : Value) (xs : List Int) (w : World) (h : IsL w w.heap.size v xs) (hl : xs.length ≤ 1000) :
    Calls Try.prog 33 #[v] w fun e w' => ∃ v, e = .returned v ∧ IsL w' w'.heap.size v (mk xs) ∧ Below w.heap.size w w' := by
  obtain ⟨⟨A, cap, rfl, hcap, hA⟩, hfit, hlen⟩ := h
  have HA := Lib.hid hA
  have HF := Lib.hid hfit
  clear hA hfit
  go_enter Try.func33, Try.ntmps33
  go_wp2
  go_loopw [3, 4] (fun u i wr => ∃ k : Nat, k ≤ xs.length ∧ i = .int .i64 (k : Int) ∧ IsL wr wr.heap.size u (mk (xs.take k)) ∧ Below w.heap.size w wr) (fun _ i _ => xs.length - (intOf i).toNat)
  case atStart => exact ⟨0, Nat.zero_le _, rfl, IsL.nil _ _ _ _, Below.refl _ _⟩
  case round =>
    obtain ⟨k, hk, rfl, hu, hbel⟩ := hrel
    have HU := Lib.hid hu
    have HL := Lib.hid hbel
    by_cases hlt : k < xs.length
    · obtain ⟨b, off, rfl, hbB, hcell⟩ := HA.out (by omega)
      have hx : wr.cell? ⟨b, off + k, none⟩ = some (.int .i64 (xs.getD k 0)) := (hbel.cell (p := ⟨b, off + k, none⟩) hbB).trans (hcell k hlt)
      have hml := mk_len_le (xs.take k)
      rw [List.length_take] at hml
      have hput := fun hfx => put_any _ _ (xs.getD k 0) hfx wr hu (by omega)
      have HPU := Lib.hid (hput (getD_fits HF.out k))
      have HTK := Lib.hid (show mk (xs.take (k + 1)) = put (mk (xs.take k)) (xs.getD k 0) by rw [take_getD xs k hlt, mk_snoc])
      clear hcell hu hbel hput hml
      generalize xs.getD k 0 = x at *
      go_wp2_with (go_at_call 53; refine (HPU.out).mono ?_; rintro e w1 ⟨v1, rfl, hv1, hb1⟩)
      have H1 := Lib.hid hv1
      have H2 := Lib.hid (HL.out.trans (hb1.mono HL.out.size))
      clear hv1 hb1
      go_wp2
      go_roundw
      case rel => exact ⟨k + 1, by omega, num_i (by omega), by rw [HTK.out]; exact H1.out, H2.out⟩
      case measure => simp [intOf]; omega
    · obtain rfl : k = xs.length := by omega
      rw [List.take_length] at HU
      clear hu hbel
      go_wp2
      go_ret
      exact ⟨_, rfl, HU.out, HL.out⟩
set_option maxHeartbeats 2000000 in
theorem reither_any (v u : Value) (xs ys : List Int) (w : World) (h : IsL w w.heap.size v xs) (hy : IsL w w.heap.size u ys) (hl : xs.length + ys.length ≤ 1000) (hi : Inc xs) :
    Calls Try.prog 41 #[v, u] w fun e w' => ∃ v, e = .returned v ∧ IsL w' w'.heap.size v (mk (xs ++ ys)) ∧ Below w.heap.size w w' := by
  have HV := Lib.hid h
  obtain ⟨⟨A, cap, rfl, hcap, hA⟩, hfit, hlen⟩ := hy
  have HA := Lib.hid hA
  have HF := Lib.hid hfit
  have HE := Lib.hid (foldl_put_eq hi ys)
  clear hA hfit h hi
  go_enter Try.func41, Try.ntmps41
  go_wp2_with (at_builtin; refine wpList_app _ rfl _ _ rfl w.heap.size w.heap.size _ _ [] xs rfl rfl (own_empty (W := w) (Nat.le_refl _)) (HV.out.below ((Below.refl _ w).alloc (Nat.le_refl _) _)) ?c1 ?c2 ?_)
  case c1 => simp; omega
  case c2 => simp
  intro v1 w1 hown hgrow _
  have hb1 := Own.grow' (own_empty (W := w) (S := w.heap.size) (Nat.le_refl _)) ((Below.refl _ w).alloc (Nat.le_refl _) (.cells #[] 3)) (show w.heap.size ≤ (w.alloc (.cells #[] 3)).heap.size by simp) hgrow
  have H1 := Lib.hid (hown.isL (by omega))
  have H2 := Lib.hid hb1
  clear hown hgrow hb1
  go_wp2
  go_loopw [5, 6] (fun u i wr => ∃ k : Nat, k ≤ ys.length ∧ i = .int .i64 (k : Int) ∧ IsL wr wr.heap.size u ((ys.take k).foldl put xs) ∧ Below w.heap.size w wr) (fun _ i _ => ys.length - (intOf i).toNat)
  case atStart => exact ⟨0, Nat.zero_le _, rfl, by simpa using H1.out, H2.out⟩
  case round =>
    obtain ⟨k, hk, rfl, hu, hbel⟩ := hrel
    have HU := Lib.hid hu
    have HL := Lib.hid hbel
    clear H1 H2
    by_cases hlt : k < ys.length
    · obtain ⟨b, off, rfl, hbB, hcell⟩ := HA.out (by omega)
      have hx : wr.cell? ⟨b, off + k, none⟩ = some (.int .i64 (ys.getD k 0)) := (hbel.cell (p := ⟨b, off + k, none⟩) hbB).trans (hcell k hlt)
      have hml := foldl_put_len (ys.take k) xs
      rw [List.length_take] at hml
      have hput := fun hfx => put_any _ _ (ys.getD k 0) hfx wr hu (by omega)
      have HPU := Lib.hid (hput (getD_fits HF.out k))
      have HTK := Lib.hid (show (ys.take (k + 1)).foldl put xs = put ((ys.take k).foldl put xs) (ys.getD k 0) by rw [take_getD ys k hlt, List.foldl_append]; rfl)
      clear hcell hu hbel hput hml
      generalize ys.getD k 0 = x at *
      go_wp2_with (go_at_call 53; refine (HPU.out).mono ?_; rintro e w1 ⟨v1, rfl, hv1, hb1⟩)
      have H1 := Lib.hid hv1
      have H2 := Lib.hid (HL.out.trans (hb1.mono HL.out.size))
      clear hv1 hb1
      go_wp2
      go_roundw
      case rel => exact ⟨k + 1, by omega, num_i (by omega), by rw [HTK.out]; exact H1.out, H2.out⟩
      case measure => simp [intOf]; omega
    · obtain rfl : k = ys.length := by omega
      rw [List.take_length, HE.out] at HU
      clear hu hbel
      go_wp2
      go_ret
      exact ⟨_, rfl, HU.out, HL.out⟩
theorem filter_snoc (l : List Int) (p : Int → Bool) (x : Int) : (l ++ [x]).filter p = l.filter p ++ (if p x then [x] else []) := by
  rw [List.filter_append]
  cases h : p x <;> simp [h]
set_option maxHeartbeats 2000000 in
theorem rboth_any (v u : Value) (xs ys : List Int) (w : World) (h : IsL w w.heap.size v xs) (hy : IsL w w.heap.size u ys) (hl : xs.length ≤ 1000) :
    Calls Try.prog 43 #[v, u] w fun e w' => ∃ v, e = .returned v ∧ IsL w' w'.heap.size v (xs.filter (fun y => decide (y ∈ ys))) ∧ Below w.heap.size w w' := by
  have HY := Lib.hid hy
  obtain ⟨⟨A, cap, rfl, hcap, hA⟩, hfit, hlen⟩ := h
  have HA := Lib.hid hA
  have HF := Lib.hid hfit
  obtain ⟨B, hB⟩ : ∃ B, B = w.heap.size := ⟨_, rfl⟩
  have HB := Lib.hid hB
  clear hA hfit hy hB
  go_enter Try.func43, Try.ntmps43
  go_wp2
  go_loopw [5, 6] (fun t i wr => ∃ k : Nat, k ≤ xs.length ∧ i = .int .i64 (k : Int) ∧ Own wr w.heap.size t ((xs.take k).filter (fun y => decide (y ∈ ys))) ∧ Below w.heap.size w wr) (fun _ i _ => xs.length - (intOf i).toNat)
  case atStart => exact ⟨0, Nat.zero_le _, rfl, by simp; exact Own.nil _ _, Below.refl _ _⟩
  case round =>
    obtain ⟨k, hk, rfl, hu, hbel⟩ := hrel
    have HU := Lib.hid hu
    have HL := Lib.hid hbel
    have HFL := Lib.hid (Nat.le_trans (List.length_filter_le (fun y => decide (y ∈ ys)) (xs.take k)) (by rw [List.length_take]; exact Nat.min_le_left _ _))
    by_cases hlt : k < xs.length
    · obtain ⟨b, off, rfl, hbB, hcell⟩ := HA.out (by omega)
      have hx : wr.cell? ⟨b, off + k, none⟩ = some (.int .i64 (xs.getD k 0)) := (hbel.cell (p := ⟨b, off + k, none⟩) hbB).trans (hcell k hlt)
      have HFX := Lib.hid (getD_fits HF.out k)
      have hin := in_any u ys (xs.getD k 0) wr ((HY.out.below hbel).more hbel.size)
      have HTK := Lib.hid (show (xs.take (k + 1)).filter (fun y => decide (y ∈ ys)) = (xs.take k).filter (fun y => decide (y ∈ ys)) ++ (if decide (xs.getD k 0 ∈ ys) then [xs.getD k 0] else []) by rw [take_getD xs k hlt, filter_snoc])
      have HIN := Lib.hid hin
      clear hcell hu hbel hin
      generalize xs.getD k 0 = x at *
      by_cases hm : x ∈ ys
      · have hd : decide (x ∈ ys) = true := decide_eq_true hm
        have hin := HIN.out
        rw [hd] at hin
        have HIN2 := Lib.hid hin
        rw [hd] at HTK
        clear hm hd hin HIN
        go_wp2_with (first
          | (go_at_call 39; refine (HIN2.out).mono ?_; rintro e w' ⟨rfl, rfl⟩)
          | (at_builtin; refine wpList_app _ rfl _ _ rfl w.heap.size (wr.heap.size + 1) _ _ ((xs.take k).filter (fun y => decide (y ∈ ys))) [x] rfl rfl (HU.out.alloc _) (IsL.lit wr x HFX.out) ?c1 ?c2 ?_))
        case c1 => have := HFL.out; simp; omega
        case c2 => have := HL.out.size; simp; omega
        intro v1 w1 hown hgrow _
        have hb1 := Own.grow' (HU.out.alloc (.cells #[.int .i64 x] 3)) (HL.out.alloc HL.out.size _) (by have := HL.out.size; simp; omega) hgrow
        have H1 := Lib.hid hown
        have H2 := Lib.hid hb1
        clear hown hgrow hb1
        go_wp2
        go_roundw
        case rel => exact ⟨k + 1, by omega, num_i (by omega), by rw [HTK.out]; exact H1.out, H2.out⟩
        case measure => simp [intOf]; omega
      · have hd : decide (x ∈ ys) = false := decide_eq_false hm
        have hin := HIN.out
        rw [hd] at hin
        have HIN2 := Lib.hid hin
        rw [hd] at HTK
        clear hm hd hin HIN
        go_wp2_with (go_at_call 39; refine (HIN2.out).mono ?_; rintro e w' ⟨rfl, rfl⟩)
        go_roundw
        case rel => exact ⟨k + 1, by omega, num_i (by omega), by rw [HTK.out]; simpa using HU.out, HL.out⟩
        case measure => simp [intOf]; omega
    · obtain rfl : k = xs.length := by omega
      rw [List.take_length] at HU
      have HR := Lib.hid (HU.out.isL (by have := HFL.out; rw [List.take_length] at this; omega))
      clear hu hbel
      go_wp2
      go_ret
      exact ⟨_, rfl, HR.out, HL.out⟩
set_option maxHeartbeats 2000000 in
theorem rless_any (v u : Value) (xs ys : List Int) (w : World) (h : IsL w w.heap.size v xs) (hy : IsL w w.heap.size u ys) (hl : xs.length ≤ 1000) :
    Calls Try.prog 45 #[v, u] w fun e w' => ∃ v, e = .returned v ∧ IsL w' w'.heap.size v (xs.filter (fun y => !decide (y ∈ ys))) ∧ Below w.heap.size w w' := by
  have HY := Lib.hid hy
  obtain ⟨⟨A, cap, rfl, hcap, hA⟩, hfit, hlen⟩ := h
  have HA := Lib.hid hA
  have HF := Lib.hid hfit
  obtain ⟨B, hB⟩ : ∃ B, B = w.heap.size := ⟨_, rfl⟩
  have HB := Lib.hid hB
  clear hA hfit hy hB
  go_enter Try.func45, Try.ntmps45
  go_wp2
  go_loopw [5, 6] (fun t i wr => ∃ k : Nat, k ≤ xs.length ∧ i = .int .i64 (k : Int) ∧ Own wr w.heap.size t ((xs.take k).filter (fun y => !decide (y ∈ ys))) ∧ Below w.heap.size w wr) (fun _ i _ => xs.length - (intOf i).toNat)
  case atStart => exact ⟨0, Nat.zero_le _, rfl, by simp; exact Own.nil _ _, Below.refl _ _⟩
  case round =>
    obtain ⟨k, hk, rfl, hu, hbel⟩ := hrel
    have HU := Lib.hid hu
    have HL := Lib.hid hbel
    have HFL := Lib.hid (Nat.le_trans (List.length_filter_le (fun y => !decide (y ∈ ys)) (xs.take k)) (by rw [List.length_take]; exact Nat.min_le_left _ _))
    by_cases hlt : k < xs.length
    · obtain ⟨b, off, rfl, hbB, hcell⟩ := HA.out (by omega)
      have hx : wr.cell? ⟨b, off + k, none⟩ = some (.int .i64 (xs.getD k 0)) := (hbel.cell (p := ⟨b, off + k, none⟩) hbB).trans (hcell k hlt)
      have HFX := Lib.hid (getD_fits HF.out k)
      have hin := in_any u ys (xs.getD k 0) wr ((HY.out.below hbel).more hbel.size)
      have HTK := Lib.hid (show (xs.take (k + 1)).filter (fun y => !decide (y ∈ ys)) = (xs.take k).filter (fun y => !decide (y ∈ ys)) ++ (if !decide (xs.getD k 0 ∈ ys) then [xs.getD k 0] else []) by rw [take_getD xs k hlt, filter_snoc])
      have HIN := Lib.hid hin
      clear hcell hu hbel hin
      generalize xs.getD k 0 = x at *
      by_cases hm : x ∈ ys
      · have hd : decide (x ∈ ys) = true := decide_eq_true hm
        have hin := HIN.out
        rw [hd] at hin
        have HIN2 := Lib.hid hin
        rw [hd] at HTK
        clear hm hd hin HIN
        go_wp2_with (go_at_call 39; refine (HIN2.out).mono ?_; rintro e w' ⟨rfl, rfl⟩)
        go_roundw
        case rel => exact ⟨k + 1, by omega, num_i (by omega), by rw [HTK.out]; simpa using HU.out, HL.out⟩
        case measure => simp [intOf]; omega
      · have hd : decide (x ∈ ys) = false := decide_eq_false hm
        have hin := HIN.out
        rw [hd] at hin
        have HIN2 := Lib.hid hin
        rw [hd] at HTK
        clear hm hd hin HIN
        go_wp2_with (first
          | (go_at_call 39; refine (HIN2.out).mono ?_; rintro e w' ⟨rfl, rfl⟩)
          | (at_builtin; refine wpList_app _ rfl _ _ rfl w.heap.size (wr.heap.size + 1) _ _ ((xs.take k).filter (fun y => !decide (y ∈ ys))) [x] rfl rfl (HU.out.alloc _) (IsL.lit wr x HFX.out) ?c1 ?c2 ?_))
        case c1 => have := HFL.out; simp; omega
        case c2 => have := HL.out.size; simp; omega
        intro v1 w1 hown hgrow _
        have hb1 := Own.grow' (HU.out.alloc (.cells #[.int .i64 x] 3)) (HL.out.alloc HL.out.size _) (by have := HL.out.size; simp; omega) hgrow
        have H1 := Lib.hid hown
        have H2 := Lib.hid hb1
        clear hown hgrow hb1
        go_wp2
        go_roundw
        case rel => exact ⟨k + 1, by omega, num_i (by omega), by rw [HTK.out]; exact H1.out, H2.out⟩
        case measure => simp [intOf]; omega
    · obtain rfl : k = xs.length := by omega
      rw [List.take_length] at HU
      have HR := Lib.hid (HU.out.isL (by have := HFL.out; rw [List.take_length] at this; omega))
      clear hu hbel
      go_wp2
      go_ret
      exact ⟨_, rfl, HR.out, HL.out⟩
end Go.Proofs.Ytjpojidpmmodnaa
