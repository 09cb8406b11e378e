/- Logs: what came since a version, as the reference tells it. -/
import Derived.Test.YtdghekhkjkkgfaaVJ
import Derived.Test.YtdghekhkjkkgfaaVC
namespace Go.Proofs.Ytdghekhkjkkgfaa
open Go.RowKit

set_option maxRecDepth 100000 in
set_option maxHeartbeats 1000000 in
theorem rsince_ok (r l : Int) (A : Option Addr) (c : Nat) (xs : List Ch) (v : Int) (hE : snE r l xs v = 0) (w : World) (hv : KC.IsL w w.heap.size (.slice A xs.length c) xs) : Calls Try.prog 17 #[lgV r l A xs.length c, .int .i64 v] w fun e w' =>
    ∃ A' c', e = .returned (.tuple #[.slice A' (snL l xs v).length c', .int .i64 0]) ∧ KC.IsL w' w'.heap.size (.slice A' (snL l xs v).length c') (snL l xs v) ∧ Below w.heap.size w w' := by
  obtain ⟨h1, h2, h3, h4⟩ := sn_ok hE
  obtain ⟨⟨g0, g1, g2, g3, g4, g5⟩, hrl⟩ := rg_parts h1
  have HV := Lib.hid hv
  have HR := Lib.hid (fun w h => rlright_any r l A c xs w h)
  rw [h1] at HR
  obtain ⟨m, hm⟩ : ∃ m : Nat, (m : Int) = max (v - (l - xs.length)) 0 := ⟨(max (v - (l - xs.length)) 0).toNat, by omega⟩
  have HRL := Lib.hid (show ∀ k, k < xs.length → (xs.getD k ch0).a = l - xs.length + 1 + k from fun k hk => by
    have q := rl_at hrl k hk
    unfold okC at q
    rw [Bool.and_eq_true, decide_eq_true_eq] at q
    exact q.1)
  clear hrl
  have HQ := Lib.hid (show snL l xs v = xs.drop m by
    unfold snL
    rw [show xs.length - (l - v).toNat = m by omega])
  clear hE h1 hv
  obtain ⟨w0, hw0⟩ : ∃ w0, w0 = w.alloc (.cells #[.int .i64 r, .int .i64 l, .slice A xs.length c] 24) := ⟨_, rfl⟩
  have HB0 := Lib.hid (show Below w.heap.size w w0 by rw [hw0]; exact Below.al (Below.refl _ _) _)
  have HA0 := Lib.hid (show Cells3 w0 w.heap.size (.int .i64 r) (.int .i64 l) (.slice A xs.length c) by rw [hw0]; exact Cells3.new w _ _ _ _)
  go_enter Try.func17, Try.ntmps17
  go_wp2_with fail
  rw [← hw0]
  clear hw0
  obtain ⟨G, hG⟩ : ∃ G, w.heap.size = G := ⟨_, rfl⟩
  rw [hG] at HA0
  simp only [hG]
  refine (HR.out _ (HV.out.then HB0.out)).mono ?_
  rintro e w1 ⟨rfl, hb1⟩
  have HA1 := Lib.hid (HA0.out.below hb1)
  have HB1 := Lib.hid (Below.call HB0.out hb1)
  clear hb1 HA0 HB0
  obtain ⟨a0, a1, a2, _⟩ := HA1.out
  have HF := Lib.hid (show ∀ wr, Below w1.heap.size w1 wr → Cells3 wr G (.int .i64 r) (.int .i64 l) (.slice A xs.length c) from fun wr hb => HA1.out.below hb)
  have HS1 := Lib.hid (show G < w1.heap.size from HA1.out.2.2.2.2.2.2)
  go_wp2
  clear a0 a1 a2
  go_loopw [6, 7] (fun t i wr => ∃ k : Nat, i = .int .i64 k ∧ k ≤ xs.length ∧ KC.Own wr w1.heap.size t ((xs.take k).drop m) ∧ Below w1.heap.size w1 wr) (fun _ i _ => xs.length - (intOf i).toNat)
  case atStart => exact ⟨0, rfl, Nat.zero_le _, by rw [List.take_zero, List.drop_nil]; exact Lk.Own.nil _ _, Below.refl _ _⟩
  case round =>
    obtain ⟨k, rfl, hk, hown, hbl⟩ := hrel
    have HB := Lib.hid hbl
    have HO := Lib.hid hown
    obtain ⟨c1, c2, c3, _⟩ := HF.out wr hbl
    clear hbl hown
    by_cases hlt : k < xs.length
    · obtain ⟨b', off, rfl, hb', hbc, hcell⟩ := ch_cells (HV.out.below (Below.call HB1.out HB.out)) (by omega)
      obtain ⟨e1, e2, e3⟩ := hcell k hlt
      have ha := HRL.out k hlt
      have HT := Lib.hid (show k < m → (xs.take (k + 1)).drop m = (xs.take k).drop m from fun h => by
        rw [List.drop_eq_nil_of_le (by rw [List.length_take]; omega), List.drop_eq_nil_of_le (by rw [List.length_take]; omega)])
      have HT2 := Lib.hid (show m ≤ k → (xs.take (k + 1)).drop m = (xs.take k).drop m ++ [xs.getD k ch0] from fun h => by
        rw [take_snoc xs k ch0 hlt, List.drop_append_of_le_length (by rw [List.length_take]; omega)])
      have HOK := Lib.hid (HV.out.2.1 _ (getD_mem' xs k ch0 hlt))
      have HLN := Lib.hid (show ((xs.take k).drop m).length ≤ 64 by rw [List.length_drop, List.length_take]; omega)
      clear hcell
      generalize xs.getD k ch0 = q at *
      obtain ⟨a, b, n⟩ := q
      dsimp only at *
      by_cases hkm : k < m
      · have hav : a ≤ v := by omega
        rw [← HT.out hkm] at HO
        clear ha HT HT2 HLN
        go_wp2
        go_roundw
        case rel => exact ⟨k + 1, num_i (by omega), by omega, HO.out, HB.out⟩
        case measure => simp [intOf]; omega
      · have hav : v < a := by omega
        have HT3 := Lib.hid (HT2.out (by omega))
        clear ha HT HT2
        generalize (xs.take k).drop m = L at *
        go_wp2_with (at_builtin; go_loud (refine Lk.wpList_app (K := KC) _ rfl _ _ rfl rfl w1.heap.size (wr.heap.size + 1) _ _ L [⟨a, b, n⟩] rfl rfl (HO.out.alloc _) (Lk.IsL.lit (K := KC) _ ⟨a, b, n⟩ _ HOK.out rfl wr.heap.size rfl) ?c1 ?c2 ?_))
        case c1 => have := HLN.out; simp; omega
        case c2 => have := HB.out.size; simp; omega
        intro v2 w3 hown hgrow _
        have HB3 := Lib.hid (Lk.Own.grow' (HO.out.alloc _) (HB.out.alloc HB.out.size _) (by have := HB.out.size; simp; omega) hgrow)
        have HO3 := Lib.hid hown
        clear hown hgrow
        go_wp2
        go_roundw
        case rel => exact ⟨k + 1, num_i (by omega), by omega, by rw [HT3.out]; exact HO3.out, HB3.out⟩
        case measure => simp [intOf]; omega
    · obtain rfl : k = xs.length := by omega
      rw [List.take_length] at HO
      have hown := HO.out.isL (by rw [List.length_drop]; omega)
      obtain ⟨A2, c4, rfl, hc4⟩ := hown.shape
      have HO3 := Lib.hid hown
      have hln : ((xs.drop m).length : Int) = l - v := by rw [List.length_drop]; omega
      clear hown
      generalize xs.drop m = ys at *
      go_wp2
      go_ret2
      exact ⟨A2, c4, by rw [HQ.out]; rfl, by rw [HQ.out]; exact HO3.out, Below.call HB1.out HB.out⟩

set_option maxRecDepth 100000 in
set_option maxHeartbeats 1000000 in
theorem rsince_gone (r l : Int) (A : Option Addr) (c : Nat) (xs : List Ch) (v : Int) (h1 : rgB r l xs = true) (h2 : 0 ≤ v) (h3 : v ≤ l) (h4 : (xs.length : Int) < l - v) (w : World) (hv : KC.IsL w w.heap.size (.slice A xs.length c) xs) : Calls Try.prog 17 #[lgV r l A xs.length c, .int .i64 v] w fun e w' =>
    e = .returned (.tuple #[.slice none 0 0, .int .i64 111]) ∧ Below w.heap.size w w' := by
  obtain ⟨⟨g0, g1, g2, g3, g4, g5⟩, hrl⟩ := rg_parts h1
  have HV := Lib.hid hv
  have HR := Lib.hid (fun w h => rlright_any r l A c xs w h)
  rw [h1] at HR
  obtain ⟨m, hm⟩ : ∃ m : Nat, (m : Int) = max (v - (l - xs.length)) 0 := ⟨(max (v - (l - xs.length)) 0).toNat, by omega⟩
  have HRL := Lib.hid (show ∀ k, k < xs.length → (xs.getD k ch0).a = l - xs.length + 1 + k from fun k hk => by
    have q := rl_at hrl k hk
    unfold okC at q
    rw [Bool.and_eq_true, decide_eq_true_eq] at q
    exact q.1)
  clear hrl
  clear h1 hv
  obtain ⟨w0, hw0⟩ : ∃ w0, w0 = w.alloc (.cells #[.int .i64 r, .int .i64 l, .slice A xs.length c] 24) := ⟨_, rfl⟩
  have HB0 := Lib.hid (show Below w.heap.size w w0 by rw [hw0]; exact Below.al (Below.refl _ _) _)
  have HA0 := Lib.hid (show Cells3 w0 w.heap.size (.int .i64 r) (.int .i64 l) (.slice A xs.length c) by rw [hw0]; exact Cells3.new w _ _ _ _)
  go_enter Try.func17, Try.ntmps17
  go_wp2_with fail
  rw [← hw0]
  clear hw0
  obtain ⟨G, hG⟩ : ∃ G, w.heap.size = G := ⟨_, rfl⟩
  rw [hG] at HA0
  simp only [hG]
  refine (HR.out _ (HV.out.then HB0.out)).mono ?_
  rintro e w1 ⟨rfl, hb1⟩
  have HA1 := Lib.hid (HA0.out.below hb1)
  have HB1 := Lib.hid (Below.call HB0.out hb1)
  clear hb1 HA0 HB0
  obtain ⟨a0, a1, a2, _⟩ := HA1.out
  have HF := Lib.hid (show ∀ wr, Below w1.heap.size w1 wr → Cells3 wr G (.int .i64 r) (.int .i64 l) (.slice A xs.length c) from fun wr hb => HA1.out.below hb)
  have HS1 := Lib.hid (show G < w1.heap.size from HA1.out.2.2.2.2.2.2)
  go_wp2
  clear a0 a1 a2
  go_loopw [6, 7] (fun t i wr => ∃ k : Nat, i = .int .i64 k ∧ k ≤ xs.length ∧ KC.Own wr w1.heap.size t ((xs.take k).drop m) ∧ Below w1.heap.size w1 wr) (fun _ i _ => xs.length - (intOf i).toNat)
  case atStart => exact ⟨0, rfl, Nat.zero_le _, by rw [List.take_zero, List.drop_nil]; exact Lk.Own.nil _ _, Below.refl _ _⟩
  case round =>
    obtain ⟨k, rfl, hk, hown, hbl⟩ := hrel
    have HB := Lib.hid hbl
    have HO := Lib.hid hown
    obtain ⟨c1, c2, c3, _⟩ := HF.out wr hbl
    clear hbl hown
    by_cases hlt : k < xs.length
    · obtain ⟨b', off, rfl, hb', hbc, hcell⟩ := ch_cells (HV.out.below (Below.call HB1.out HB.out)) (by omega)
      obtain ⟨e1, e2, e3⟩ := hcell k hlt
      have ha := HRL.out k hlt
      have HT := Lib.hid (show k < m → (xs.take (k + 1)).drop m = (xs.take k).drop m from fun h => by
        rw [List.drop_eq_nil_of_le (by rw [List.length_take]; omega), List.drop_eq_nil_of_le (by rw [List.length_take]; omega)])
      have HT2 := Lib.hid (show m ≤ k → (xs.take (k + 1)).drop m = (xs.take k).drop m ++ [xs.getD k ch0] from fun h => by
        rw [take_snoc xs k ch0 hlt, List.drop_append_of_le_length (by rw [List.length_take]; omega)])
      have HOK := Lib.hid (HV.out.2.1 _ (getD_mem' xs k ch0 hlt))
      have HLN := Lib.hid (show ((xs.take k).drop m).length ≤ 64 by rw [List.length_drop, List.length_take]; omega)
      clear hcell
      generalize xs.getD k ch0 = q at *
      obtain ⟨a, b, n⟩ := q
      dsimp only at *
      by_cases hkm : k < m
      · exact absurd hkm (by omega)
      · have hav : v < a := by omega
        have HT3 := Lib.hid (HT2.out (by omega))
        clear ha HT HT2
        generalize (xs.take k).drop m = L at *
        go_wp2_with (at_builtin; go_loud (refine Lk.wpList_app (K := KC) _ rfl _ _ rfl rfl w1.heap.size (wr.heap.size + 1) _ _ L [⟨a, b, n⟩] rfl rfl (HO.out.alloc _) (Lk.IsL.lit (K := KC) _ ⟨a, b, n⟩ _ HOK.out rfl wr.heap.size rfl) ?c1 ?c2 ?_))
        case c1 => have := HLN.out; simp; omega
        case c2 => have := HB.out.size; simp; omega
        intro v2 w3 hown hgrow _
        have HB3 := Lib.hid (Lk.Own.grow' (HO.out.alloc _) (HB.out.alloc HB.out.size _) (by have := HB.out.size; simp; omega) hgrow)
        have HO3 := Lib.hid hown
        clear hown hgrow
        go_wp2
        go_roundw
        case rel => exact ⟨k + 1, num_i (by omega), by omega, by rw [HT3.out]; exact HO3.out, HB3.out⟩
        case measure => simp [intOf]; omega
    · obtain rfl : k = xs.length := by omega
      rw [List.take_length] at HO
      have hown := HO.out.isL (by rw [List.length_drop]; omega)
      obtain ⟨A2, c4, rfl, hc4⟩ := hown.shape
      have hln : ((xs.drop m).length : Int) < l - v := by rw [List.length_drop]; omega
      clear hown
      generalize xs.drop m = ys at *
      go_wp2
      go_ret2
      exact ⟨rfl, Below.call HB1.out HB.out⟩

set_option maxRecDepth 100000 in
set_option maxHeartbeats 1000000 in
theorem rsince_bad (r l : Int) (A : Option Addr) (c : Nat) (xs : List Ch) (v : Int) (hE : snE r l xs v ≠ 0) (w : World) (hv : KC.IsL w w.heap.size (.slice A xs.length c) xs) : Calls Try.prog 17 #[lgV r l A xs.length c, .int .i64 v] w fun e w' =>
    e = .returned (.tuple #[.slice none 0 0, .int .i64 (snE r l xs v)]) ∧ Below w.heap.size w w' := by
  have HV := Lib.hid hv
  have HR := Lib.hid (fun w h => rlright_any r l A c xs w h)
  have hl := hv.2.2
  have HG := Lib.hid (fun h1 h2 h3 h4 => rsince_gone r l A c xs v h1 h2 h3 h4 w hv)
  clear hv
  obtain ⟨w0, hw0⟩ : ∃ w0, w0 = w.alloc (.cells #[.int .i64 r, .int .i64 l, .slice A xs.length c] 24) := ⟨_, rfl⟩
  have HB0 := Lib.hid (show Below w.heap.size w w0 by rw [hw0]; exact Below.al (Below.refl _ _) _)
  have HA0 := Lib.hid (show Cells3 w0 w.heap.size (.int .i64 r) (.int .i64 l) (.slice A xs.length c) by rw [hw0]; exact Cells3.new w _ _ _ _)
  unfold snE at hE ⊢
  cases h1 : rgB r l xs
  · rw [if_pos rfl]
    rw [h1] at HR
    clear h1 hE HG
    go_enter Try.func17, Try.ntmps17
    go_wp2_with fail
    rw [← hw0]
    clear hw0
    obtain ⟨G, hG⟩ : ∃ G, w.heap.size = G := ⟨_, rfl⟩
    rw [hG] at HA0
    simp only [hG]
    refine (HR.out _ (HV.out.then HB0.out)).mono ?_
    rintro e w1 ⟨rfl, hb1⟩
    have HA1 := Lib.hid (HA0.out.below hb1)
    have HB1 := Lib.hid (Below.call HB0.out hb1)
    clear hb1 HA0 HB0
    obtain ⟨a0, a1, a2, _⟩ := HA1.out
    go_wp2
    go_ret2
    exact ⟨rfl, HB1.out⟩
  · obtain ⟨⟨g0, g1, g2, g3, g4, g5⟩, _⟩ := rg_parts h1
    rw [if_neg (by decide)]
    rw [h1] at HR hE
    rw [if_neg (by decide)] at hE
    by_cases h2 : v < 0
    · rw [if_pos (.inl h2)]
      clear hE HG h1
      go_enter Try.func17, Try.ntmps17
      go_wp2_with fail
      rw [← hw0]
      clear hw0
      obtain ⟨G, hG⟩ : ∃ G, w.heap.size = G := ⟨_, rfl⟩
      rw [hG] at HA0
      simp only [hG]
      refine (HR.out _ (HV.out.then HB0.out)).mono ?_
      rintro e w1 ⟨rfl, hb1⟩
      have HA1 := Lib.hid (HA0.out.below hb1)
      have HB1 := Lib.hid (Below.call HB0.out hb1)
      clear hb1 HA0 HB0
      obtain ⟨a0, a1, a2, _⟩ := HA1.out
      go_wp2
      go_ret2
      exact ⟨rfl, HB1.out⟩
    · by_cases h3 : l < v
      · rw [if_pos (.inr h3)]
        clear hE HG h1
        go_enter Try.func17, Try.ntmps17
        go_wp2_with fail
        rw [← hw0]
        clear hw0
        obtain ⟨G, hG⟩ : ∃ G, w.heap.size = G := ⟨_, rfl⟩
        rw [hG] at HA0
        simp only [hG]
        refine (HR.out _ (HV.out.then HB0.out)).mono ?_
        rintro e w1 ⟨rfl, hb1⟩
        have HA1 := Lib.hid (HA0.out.below hb1)
        have HB1 := Lib.hid (Below.call HB0.out hb1)
        clear hb1 HA0 HB0
        obtain ⟨a0, a1, a2, _⟩ := HA1.out
        go_wp2
        go_ret2
        exact ⟨rfl, HB1.out⟩
      · have h4 : (xs.length : Int) < l - v := by
          by_cases h : (xs.length : Int) < l - v
          · exact h
          · rw [if_neg (by omega), if_neg h] at hE; exact absurd rfl hE
        rw [if_neg (by omega), if_pos h4]
        exact HG.out h1 (by omega) (by omega) h4
end Go.Proofs.Ytdghekhkjkkgfaa
