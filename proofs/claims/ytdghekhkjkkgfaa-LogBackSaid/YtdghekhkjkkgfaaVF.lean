/- Logs: a further change is noted. -/
import Derived.Test.YtdghekhkjkkgfaaVE
namespace Go.Proofs.Ytdghekhkjkkgfaa
open Go.RowKit

theorem end_z (r l : Int) (A : Option Addr) (c : Nat) (xs : List Ch) (n : Nat) (hn : n ≤ xs.length) (z : Int) (hz : z = (n : Int)) (w : World) (B : Nat) (hv : KC.IsL w B (.slice A xs.length c) xs) : Calls Try.prog 37 #[lgV r l A xs.length c, .int .i64 z] w fun e w' => ∃ A', e = .returned (.slice A' n n) ∧ KC.IsL w B (.slice A' n n) (xs.drop (xs.length - n)) ∧ Below w.heap.size w w' := by
  rw [hz]
  exact end_any r l A c xs n hn w B hv
theorem Lk.Own.set {P : Program} {α : Type} {K : Lk P α} {w : World} {base : Nat} {v : Value} {xs : List α} (h : K.Own w base v xs) {a : Addr} (ha : a.block < base) (u : Value) : K.Own (w.setCell a u) base v xs := ⟨ownsRow_setCell_below h.1 ha u, h.2⟩
/-- A log with a further change: the error, the list. -/
def ntE (r l : Int) (xs : List Ch) (b n : Int) : Int := if rgB r l xs = false then 110 else if mayB b n = false then 1 else if l = 2147483647 then 101 else 0
def ntL (r l : Int) (xs : List Ch) (b n : Int) : List Ch := xs.drop (xs.length - min xs.length (r - 1).toNat) ++ [⟨l + 1, b, n⟩]
theorem nt_ok {r l : Int} {xs : List Ch} {b n : Int} (h : ntE r l xs b n = 0) : rgB r l xs = true ∧ mayB b n = true ∧ l ≠ 2147483647 := by
  unfold ntE at h
  cases h1 : rgB r l xs
  · rw [h1] at h; simp at h
  · cases h2 : mayB b n
    · rw [h1, h2] at h; simp at h
    · rw [h1, h2] at h
      refine ⟨rfl, rfl, fun k => ?_⟩
      rw [if_pos k] at h
      simp at h

set_option maxRecDepth 100000 in
set_option maxHeartbeats 1000000 in
theorem note_ok (r l : Int) (A : Option Addr) (c : Nat) (xs : List Ch) (b n : Int) (hE : ntE r l xs b n = 0) (w : World) (hv : KC.IsL w w.heap.size (.slice A xs.length c) xs) : Calls Try.prog 10 #[lgV r l A xs.length c, .int .i64 b, .int .i64 n] w fun e w' =>
    ∃ A' c', e = .returned (.tuple #[lgV r (l + 1) A' (ntL r l xs b n).length c', .int .i64 0]) ∧ KC.Own w' w.heap.size (.slice A' (ntL r l xs b n).length c') (ntL r l xs b n) ∧ Below w.heap.size w w' := by
  obtain ⟨h1, h2, h3⟩ := nt_ok hE
  obtain ⟨⟨g0, g1, g2, g3, g4, g5⟩, _⟩ := rg_parts h1
  have HV := Lib.hid hv
  have HR := Lib.hid (fun w h => right_any' r l A c xs w h)
  have HM := Lib.hid (fun w => may_any b n w)
  rw [h1] at HR
  rw [h2] at HM
  obtain ⟨m, hm⟩ : ∃ m : Nat, min (xs.length : Int) (r - 1) = (m : Int) := ⟨(min (xs.length : Int) (r - 1)).toNat, by omega⟩
  have hml : m ≤ xs.length := by omega
  have HQ := Lib.hid (show ntL r l xs b n = xs.drop (xs.length - m) ++ [⟨l + 1, b, n⟩] from by
    unfold ntL
    rw [show min xs.length (r - 1).toNat = m by omega])
  have HX := Lib.hid (fun z hz w B h => end_z r l A c xs m hml z hz w B h)
  have HK := Lib.hid (show KC.ok ⟨l + 1, b, n⟩ by
    have q := of_decide_eq_true h2
    refine ⟨?_, ?_, ?_⟩ <;> (dsimp only; unfold fits; omega))
  have HN := Lib.hid (show (xs.drop (xs.length - m)).length ≤ 64 by rw [List.length_drop]; omega)
  clear hE h1 h2 hv
  generalize ntL r l xs b n = zs at *
  obtain ⟨ys, hys⟩ : ∃ ys, xs.drop (xs.length - m) = ys := ⟨_, rfl⟩
  rw [hys] at HX HQ HN
  clear hys
  obtain ⟨w0, hw0⟩ : ∃ w0, w0 = (w.alloc (.cells #[.int .i64 r, .int .i64 l, .slice A xs.length c] 24)).alloc (.cells #[.int .i64 0, .int .i64 0, .slice none 0 0] 24) := ⟨_, rfl⟩
  have HB0 := Lib.hid (show Below w.heap.size w w0 by rw [hw0]; exact Below.al (Below.al (Below.refl _ _) _) _)
  have HA0 := Lib.hid (show Cells3 w0 w.heap.size (.int .i64 r) (.int .i64 l) (.slice A xs.length c) by rw [hw0]; exact (Cells3.new w _ _ _ _).below (Below.al (Below.refl _ _) _))
  have HZ0 := Lib.hid (show Cells3 w0 (w.heap.size + 1) (.int .i64 0) (.int .i64 0) (.slice none 0 0) by
    rw [hw0]
    have q := Cells3.new (w.alloc (.cells #[.int .i64 r, .int .i64 l, .slice A xs.length c] 24)) 24 (.int .i64 0) (.int .i64 0) (.slice none 0 0)
    rw [show (w.alloc (.cells #[.int .i64 r, .int .i64 l, .slice A xs.length c] 24)).heap.size = w.heap.size + 1 by simp] at q
    exact q)
  go_enter Try.func10, Try.ntmps10
  go_wp2_with fail
  rw [← hw0]
  clear hw0
  obtain ⟨G, hG⟩ : ∃ G, w.heap.size = G := ⟨_, rfl⟩
  rw [hG] at HA0 HZ0
  simp only [hG]
  refine (HR.out _ (HV.out.then HB0.out)).mono ?_
  rintro e w1 ⟨rfl, hb1⟩
  have HA1 := Lib.hid (HA0.out.below hb1)
  have HZ1 := Lib.hid (HZ0.out.below hb1)
  have HB1 := Lib.hid (Below.call HB0.out hb1)
  clear hb1 HA0 HZ0 HB0
  obtain ⟨a0, a1, a2, _⟩ := HA1.out
  go_wp2_with fail
  refine (HM.out _).mono ?_
  rintro e w2 ⟨rfl, rfl⟩
  go_wp2_with fail
  all_goals
    refine (HX.out _ (by omega) _ _ (HV.out.below HB1.out)).mono ?_
    rintro e w4 ⟨A', rfl, hp, hb4⟩
    have HA4 := Lib.hid (HA1.out.below hb4)
    have HZ4 := Lib.hid (HZ1.out.below hb4)
    have HB4 := Lib.hid (Below.call HB1.out hb4)
    have HP4 := Lib.hid (hp.below (hb4.mono HB1.out.size))
    clear hb4 HA1 HZ1 HB1 hp a0 a1 a2
    have hs4 := HB4.out.size
    rw [hG] at hs4
    have HS4 := Lib.hid (HA4.out.s1 (.int .i64 (l + 1)))
    have HZ5 := Lib.hid (HZ4.out.off (D := G) (o := 1) (by omega) (.int .i64 (l + 1)))
    have HB5 := Lib.hid (Below.st (p := ⟨G, 1, none⟩) (v := .int .i64 (l + 1)) HB4.out (Nat.le_of_eq hG))
    have HP5 := Lib.hid (show KC.IsL (w4.setCell ⟨G, 1, none⟩ (.int .i64 (l + 1))) w.heap.size (.slice A' m m) ys from HP4.out.below ((Below.refl _ _).setCell (p := ⟨G, 1, none⟩) (Nat.le_of_eq hG) _))
    obtain ⟨a0, a1, a2, z0, z1, z2, _⟩ := HA4.out
    go_wp2_with (at_builtin; go_loud (refine Lk.wpList_full (K := KC) _ rfl _ _ rfl rfl w.heap.size (w4.heap.size + 1) A' m _ ys [⟨l + 1, b, n⟩] rfl rfl (HP5.out.below ((Below.refl _ _).alloc HB5.out.size _)) (Lk.IsL.lit (K := KC) _ ⟨l + 1, b, n⟩ _ HK.out rfl w4.heap.size (by simp)) (by simp) ?c1 ?_))
    case c1 => have := HN.out; simp; omega
    intro v' w6 hown hb6
    rw [show w4.heap.size + 1 = ((w4.setCell ⟨G, 1, none⟩ (.int .i64 (l + 1))).alloc (.cells #[.int .i64 (l + 1), .int .i64 b, .int .i64 n] 32)).heap.size by simp] at hown hb6
    rw [← HQ.out] at hown
    obtain ⟨A2, c2, rfl, hc2⟩ := (hown.isL (by have := HN.out; rw [HQ.out]; simp; omega)).shape
    have HB6 := Lib.hid (Below.call (Below.al HB5.out _) hb6)
    have HA6 := Lib.hid ((HS4.out.below (Below.al (Below.refl _ _) _)).below hb6)
    have HZ6 := Lib.hid ((HZ5.out.below (Below.al (Below.refl _ _) _)).below hb6)
    have HO6 := Lib.hid (hown.mono (Nat.le_trans (show G + 2 ≤ w4.heap.size from HZ4.out.2.2.2.2.2.2) (by simp)))
    clear hown hb6 a0 a1 a2 z0 z1 z2 HA4 HZ4 HB4 HS4 HZ5 HB5 HP5 HP4 HN hc2
    have HA7 := Lib.hid (HA6.out.s2 (.slice A2 zs.length c2))
    have HZ7 := Lib.hid (HZ6.out.off (D := G) (o := 2) (by omega) (.slice A2 zs.length c2))
    obtain ⟨q0, q1, q2, _⟩ := HZ7.out.set (.int .i64 r) (.int .i64 (l + 1)) (.slice A2 zs.length c2)
    obtain ⟨a0, a1, a2, z0, z1, z2, _⟩ := HA6.out
    obtain ⟨b0, b1, b2, _⟩ := HA7.out
    obtain ⟨k0, k1, k2, y0, y1, y2, _⟩ := HZ7.out
    go_wp2
    refine bodyPost_ret (v := .tuple #[lgV r (l + 1) A2 zs.length c2, .int .i64 0]) (by simp [results, Try.results10, go_sem, q0, q1, q2]) rfl ⟨A2, c2, rfl, ?_, ?_⟩
    · exact ((((HO6.out.set (a := ⟨G, 2, none⟩) (show G < G + 2 by omega) _).set (a := ⟨G + 1, 0, none⟩) (show G + 1 < G + 2 by omega) _).set (a := ⟨G + 1, 1, none⟩) (show G + 1 < G + 2 by omega) _).set (a := ⟨G + 1, 2, none⟩) (show G + 1 < G + 2 by omega) _).mono (by omega)
    · exact below_set3 (Below.st HB6.out (Nat.le_of_eq hG)) (by omega) _ _ _
end Go.Proofs.Ytdghekhkjkkgfaa
