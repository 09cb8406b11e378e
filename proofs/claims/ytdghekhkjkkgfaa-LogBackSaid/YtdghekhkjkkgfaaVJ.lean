/- Logs: what came since a version, as the program tells it. -/
import Derived.Test.YtdghekhkjkkgfaaVF
namespace Go.Proofs.Ytdghekhkjkkgfaa
open Go.RowKit

/-- What came since a version: the error, the list. -/
def snE (r l : Int) (xs : List Ch) (v : Int) : Int := if rgB r l xs = false then 110 else if v < 0 ∨ l < v then 1 else if (xs.length : Int) < l - v then 111 else 0
def snL (l : Int) (xs : List Ch) (v : Int) : List Ch := xs.drop (xs.length - (l - v).toNat)
theorem sn_ok {r l : Int} {xs : List Ch} {v : Int} (h : snE r l xs v = 0) : rgB r l xs = true ∧ 0 ≤ v ∧ v ≤ l ∧ l - v ≤ xs.length := by
  unfold snE at h
  cases h1 : rgB r l xs
  · rw [h1] at h; simp at h
  · rw [h1, if_neg (by decide)] at h
    by_cases h2 : v < 0 ∨ l < v
    · rw [if_pos h2] at h; simp at h
    · rw [if_neg h2] at h
      by_cases h3 : (xs.length : Int) < l - v
      · rw [if_pos h3] at h; simp at h
      · exact ⟨rfl, by omega, by omega, by omega⟩
theorem sn_len {r l : Int} {xs : List Ch} {v : Int} (h : snE r l xs v = 0) : (snL l xs v).length = (l - v).toNat := by
  obtain ⟨_, _, _, _⟩ := sn_ok h
  unfold snL
  rw [List.length_drop]
  omega

set_option maxRecDepth 100000 in
set_option maxHeartbeats 1000000 in
theorem since_ok (r l : Int) (A : Option Addr) (c : Nat) (xs : List Ch) (v : Int) (hE : snE r l xs v = 0) (w : World) (hv : KC.IsL w w.heap.size (.slice A xs.length c) xs) : Calls Try.prog 16 #[lgV r l A xs.length c, .int .i64 v] w fun e w' =>
    ∃ A' c', e = .returned (.tuple #[.slice A' (snL l xs v).length c', .int .i64 0]) ∧ KC.IsL w' w'.heap.size (.slice A' (snL l xs v).length c') (snL l xs v) ∧ Below w.heap.size w w' := by
  obtain ⟨h1, h2, h3, h4⟩ := sn_ok hE
  obtain ⟨⟨g0, g1, g2, g3, g4, g5⟩, _⟩ := rg_parts h1
  have HV := Lib.hid hv
  have HR := Lib.hid (fun w h => right_any' r l A c xs w h)
  rw [h1] at HR
  obtain ⟨m, hm⟩ : ∃ m : Nat, l - v = (m : Int) := ⟨(l - v).toNat, by omega⟩
  have hml : m ≤ xs.length := by omega
  have HX := Lib.hid (fun z hz w B h => end_z r l A c xs m hml z hz w B h)
  have HQ := Lib.hid (show snL l xs v = xs.drop (xs.length - m) by
    unfold snL
    rw [show (l - v).toNat = m by omega])
  have HN := Lib.hid (show (snL l xs v).length ≤ 64 by rw [sn_len hE]; omega)
  rw [← HQ.out] at HX
  clear hE h1 hv HQ
  generalize snL l xs v = ys at *
  obtain ⟨w0, hw0⟩ : ∃ w0, w0 = w.alloc (.cells #[.int .i64 r, .int .i64 l, .slice A xs.length c] 24) := ⟨_, rfl⟩
  have HB0 := Lib.hid (show Below w.heap.size w w0 by rw [hw0]; exact Below.al (Below.refl _ _) _)
  have HA0 := Lib.hid (show Cells3 w0 w.heap.size (.int .i64 r) (.int .i64 l) (.slice A xs.length c) by rw [hw0]; exact Cells3.new w _ _ _ _)
  go_enter Try.func16, Try.ntmps16
  go_wp2_with fail
  rw [← hw0]
  clear hw0
  obtain ⟨G, hG⟩ : ∃ G, w.heap.size = G := ⟨_, rfl⟩
  rw [hG] at HA0
  simp only [hG]
  refine (HR.out _ (HV.out.then HB0.out)).mono ?_
  rintro e w1 ⟨rfl, hb1⟩
  have HA1 := Lib.hid (HA0.out.below hb1)
  have HB1 := Lib.hid (Below.call HB0.out hb1)
  clear hb1 HA0 HB0
  obtain ⟨a0, a1, a2, _⟩ := HA1.out
  go_wp2_with fail
  refine (HX.out _ (by omega) _ _ (HV.out.below HB1.out)).mono ?_
  rintro e w4 ⟨A', rfl, hp, hb4⟩
  have HB4 := Lib.hid (Below.call HB1.out hb4)
  have HP4 := Lib.hid (hp.below (hb4.mono HB1.out.size))
  clear hb4 HB1 hp a0 a1 a2 HA1
  go_wp2_with (at_builtin; go_loud (refine Lk.wpList_app (K := KC) _ rfl _ _ rfl rfl w.heap.size w.heap.size _ _ [] ys rfl rfl (Lk.Own.nil _ _) HP4.out ?c1 ?c2 ?_))
  case c1 => have := HN.out; simp; omega
  case c2 => exact HB4.out.size
  intro v' w6 hown hgrow _
  have hown2 := (show KC.Own w6 w.heap.size v' ys from hG.symm ▸ hown).isL (by have := HN.out; omega)
  obtain ⟨A2, c2, rfl, hc2⟩ := hown2.shape
  have HB6 := Lib.hid (Lk.Own.grow' (Lk.Own.nil w4 w.heap.size : KC.Own w4 w.heap.size _ _) HB4.out HB4.out.size hgrow)
  have HO6 := Lib.hid hown2
  clear hown hgrow hown2
  go_wp2
  go_ret2
  exact ⟨A2, c2, rfl, HO6.out, HB6.out⟩

set_option maxRecDepth 100000 in
set_option maxHeartbeats 1000000 in
theorem since_bad (r l : Int) (A : Option Addr) (c : Nat) (xs : List Ch) (v : Int) (hE : snE r l xs v ≠ 0) (w : World) (hv : KC.IsL w w.heap.size (.slice A xs.length c) xs) : Calls Try.prog 16 #[lgV r l A xs.length c, .int .i64 v] w fun e w' =>
    e = .returned (.tuple #[.slice none 0 0, .int .i64 (snE r l xs v)]) ∧ Below w.heap.size w w' := by
  have HV := Lib.hid hv
  have HR := Lib.hid (fun w h => right_any' r l A c xs w h)
  have hl := hv.2.2
  clear hv
  obtain ⟨w0, hw0⟩ : ∃ w0, w0 = w.alloc (.cells #[.int .i64 r, .int .i64 l, .slice A xs.length c] 24) := ⟨_, rfl⟩
  have HB0 := Lib.hid (show Below w.heap.size w w0 by rw [hw0]; exact Below.al (Below.refl _ _) _)
  have HA0 := Lib.hid (show Cells3 w0 w.heap.size (.int .i64 r) (.int .i64 l) (.slice A xs.length c) by rw [hw0]; exact Cells3.new w _ _ _ _)
  unfold snE at hE ⊢
  cases h1 : rgB r l xs
  · rw [if_pos rfl]
    rw [h1] at HR
    clear h1 hE
    go_enter Try.func16, Try.ntmps16
    go_wp2_with fail
    rw [← hw0]
    clear hw0
    obtain ⟨G, hG⟩ : ∃ G, w.heap.size = G := ⟨_, rfl⟩
    rw [hG] at HA0
    simp only [hG]
    refine (HR.out _ (HV.out.then HB0.out)).mono ?_
    rintro e w1 ⟨rfl, hb1⟩
    have HA1 := Lib.hid (HA0.out.below hb1)
    have HB1 := Lib.hid (Below.call HB0.out hb1)
    clear hb1 HA0 HB0
    obtain ⟨a0, a1, a2, _⟩ := HA1.out
    go_wp2
    go_ret2
    exact ⟨rfl, HB1.out⟩
  · obtain ⟨⟨g0, g1, g2, g3, g4, g5⟩, _⟩ := rg_parts h1
    rw [if_neg (by decide)]
    rw [h1] at HR hE
    rw [if_neg (by decide)] at hE
    clear h1
    by_cases h2 : v < 0
    · rw [if_pos (.inl h2)]
      clear hE
      go_enter Try.func16, Try.ntmps16
      go_wp2_with fail
      rw [← hw0]
      clear hw0
      obtain ⟨G, hG⟩ : ∃ G, w.heap.size = G := ⟨_, rfl⟩
      rw [hG] at HA0
      simp only [hG]
      refine (HR.out _ (HV.out.then HB0.out)).mono ?_
      rintro e w1 ⟨rfl, hb1⟩
      have HA1 := Lib.hid (HA0.out.below hb1)
      have HB1 := Lib.hid (Below.call HB0.out hb1)
      clear hb1 HA0 HB0
      obtain ⟨a0, a1, a2, _⟩ := HA1.out
      go_wp2
      go_ret2
      exact ⟨rfl, HB1.out⟩
    · by_cases h3 : l < v
      · rw [if_pos (.inr h3)]
        clear hE
        go_enter Try.func16, Try.ntmps16
        go_wp2_with fail
        rw [← hw0]
        clear hw0
        obtain ⟨G, hG⟩ : ∃ G, w.heap.size = G := ⟨_, rfl⟩
        rw [hG] at HA0
        simp only [hG]
        refine (HR.out _ (HV.out.then HB0.out)).mono ?_
        rintro e w1 ⟨rfl, hb1⟩
        have HA1 := Lib.hid (HA0.out.below hb1)
        have HB1 := Lib.hid (Below.call HB0.out hb1)
        clear hb1 HA0 HB0
        obtain ⟨a0, a1, a2, _⟩ := HA1.out
        go_wp2
        go_ret2
        exact ⟨rfl, HB1.out⟩
      · have h4 : (xs.length : Int) < l - v := by
          by_cases h : (xs.length : Int) < l - v
          · exact h
          · rw [if_neg (by omega), if_neg h] at hE; exact absurd rfl hE
        rw [if_neg (by omega), if_pos h4]
        clear hE
        go_enter Try.func16, Try.ntmps16
        go_wp2_with fail
        rw [← hw0]
        clear hw0
        obtain ⟨G, hG⟩ : ∃ G, w.heap.size = G := ⟨_, rfl⟩
        rw [hG] at HA0
        simp only [hG]
        refine (HR.out _ (HV.out.then HB0.out)).mono ?_
        rintro e w1 ⟨rfl, hb1⟩
        have HA1 := Lib.hid (HA0.out.below hb1)
        have HB1 := Lib.hid (Below.call HB0.out hb1)
        clear hb1 HA0 HB0
        obtain ⟨a0, a1, a2, _⟩ := HA1.out
        go_wp2
        go_ret2
        exact ⟨rfl, HB1.out⟩
end Go.Proofs.Ytdghekhkjkkgfaa
