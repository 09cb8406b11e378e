/- Logs: a new one. -/
import Derived.Test.YtdghekhkjkkgfaaVD
namespace Go.Proofs.Ytdghekhkjkkgfaa
open Go.RowKit

theorem Cells3.s0 {V : World} {D : Nat} {x0 x1 x2 : Value} (h : Cells3 V D x0 x1 x2) (p : Value) : Cells3 (V.setCell ⟨D, 0, none⟩ p) D p x1 x2 := by
  obtain ⟨h0, h1, h2, z0, z1, z2, hs⟩ := h
  exact ⟨st_same h0, st_other h1 (ad_ne (.inr (by decide))), st_other h2 (ad_ne (.inr (by decide))), st_fz z0, st_fz z1, st_fz z2, by simpa using hs⟩
theorem Cells3.s1 {V : World} {D : Nat} {x0 x1 x2 : Value} (h : Cells3 V D x0 x1 x2) (p : Value) : Cells3 (V.setCell ⟨D, 1, none⟩ p) D x0 p x2 := by
  obtain ⟨h0, h1, h2, z0, z1, z2, hs⟩ := h
  exact ⟨st_other h0 (ad_ne (.inr (by decide))), st_same h1, st_other h2 (ad_ne (.inr (by decide))), st_fz z0, st_fz z1, st_fz z2, by simpa using hs⟩
theorem Cells3.s2 {V : World} {D : Nat} {x0 x1 x2 : Value} (h : Cells3 V D x0 x1 x2) (p : Value) : Cells3 (V.setCell ⟨D, 2, none⟩ p) D x0 x1 p := by
  obtain ⟨h0, h1, h2, z0, z1, z2, hs⟩ := h
  exact ⟨st_other h0 (ad_ne (.inr (by decide))), st_other h1 (ad_ne (.inr (by decide))), st_same h2, st_fz z0, st_fz z1, st_fz z2, by simpa using hs⟩
theorem Cells3.off {V : World} {D G o : Nat} {x0 x1 x2 : Value} (h : Cells3 V G x0 x1 x2) (hne : D ≠ G) (p : Value) : Cells3 (V.setCell ⟨D, o, none⟩ p) G x0 x1 x2 := by
  obtain ⟨h0, h1, h2, z0, z1, z2, hs⟩ := h
  exact ⟨st_other h0 (ad_ne (.inl hne)), st_other h1 (ad_ne (.inl hne)), st_other h2 (ad_ne (.inl hne)), st_fz z0, st_fz z1, st_fz z2, by simpa using hs⟩

/-- A new log. -/
def newE (r : Int) : Int := if 1 ≤ r ∧ r ≤ 64 then 0 else 110
def newR (r : Int) : Int := if 1 ≤ r ∧ r ≤ 64 then r else 0
set_option maxRecDepth 100000 in
set_option maxHeartbeats 1000000 in
theorem new_any (r : Int) (w : World) : Calls Try.prog 15 #[.int .i64 r] w fun e w' => e = .returned (.tuple #[lgV (newR r) 0 none 0 0, .int .i64 (newE r)]) ∧ Below w.heap.size w w' := by
  have HR := Lib.hid (fun w => right_any' r 0 none 0 [] w (Lk.IsL.nil _ _ _ _))
  have hq : rgB r 0 [] = decide (1 ≤ r ∧ r ≤ 64) := by
    unfold rgB rgC
    rw [show rlB [] 0 = true from rfl, Bool.and_true]
    exact decide_eq_decide.2 (by simp only [List.length_nil]; omega)
  rw [hq] at HR
  clear hq
  unfold newR newE
  have HB := Lib.hid (show Below w.heap.size w ((w.alloc (.cells #[.int .i64 0, .int .i64 0, .slice none 0 0] 24)).alloc (.cells #[.int .i64 r, .int .i64 0, .slice none 0 0] 24)) from Below.al (Below.al (Below.refl _ _) _) _)
  have HA := Lib.hid (Cells3.new w 24 (.int .i64 0) (.int .i64 0) (.slice none 0 0))
  have HA2 := Lib.hid (HA.out.below (Below.al (Below.refl _ _) (.cells #[.int .i64 r, .int .i64 0, .slice none 0 0] 24)))
  have HC := Lib.hid (Cells3.new (w.alloc (.cells #[.int .i64 0, .int .i64 0, .slice none 0 0] 24)) 24 (.int .i64 r) (.int .i64 0) (.slice none 0 0))
  rw [show (w.alloc (.cells #[.int .i64 0, .int .i64 0, .slice none 0 0] 24)).heap.size = w.heap.size + 1 by simp] at HC
  by_cases h : 1 ≤ r ∧ r ≤ 64
  · rw [if_pos h, if_pos h]
    rw [decide_eq_true h] at HR
    clear h
    go_enter Try.func15, Try.ntmps15
    go_wp2_with fail
    obtain ⟨W, hW⟩ : ∃ W, W = ((w.alloc (.cells #[.int .i64 0, .int .i64 0, .slice none 0 0] 24)).alloc (.cells #[.int .i64 r, .int .i64 0, .slice none 0 0] 24)) := ⟨_, rfl⟩
    rw [← hW] at HB HA2 HC
    rw [← hW]
    clear hW
    refine (HR.out _).mono ?_
    rintro e w2 ⟨rfl, hb2⟩
    have HA3 := Lib.hid (HA2.out.below hb2)
    have HC3 := Lib.hid (HC.out.below hb2)
    have HB3 := Lib.hid (Below.call HB.out hb2)
    clear hb2
    have q := HA3.out.set (.int .i64 r) (.int .i64 0) (.slice none 0 0)
    obtain ⟨q0, q1, q2, _⟩ := q
    obtain ⟨a0, a1, a2, y0, y1, y2, _⟩ := HA3.out
    obtain ⟨d0, d1, d2, _⟩ := HC3.out
    go_wp2
    refine bodyPost_ret (v := .tuple #[lgV r 0 none 0 0, .int .i64 0]) (by simp [results, Try.results15, go_sem, q0, q1, q2]) rfl ⟨rfl, ?_⟩
    exact below_set3 HB3.out (Nat.le_refl _) _ _ _
  · rw [if_neg h, if_neg h]
    rw [decide_eq_false h] at HR
    clear h
    go_enter Try.func15, Try.ntmps15
    go_wp2_with fail
    obtain ⟨W, hW⟩ : ∃ W, W = ((w.alloc (.cells #[.int .i64 0, .int .i64 0, .slice none 0 0] 24)).alloc (.cells #[.int .i64 r, .int .i64 0, .slice none 0 0] 24)) := ⟨_, rfl⟩
    rw [← hW] at HB HA2
    rw [← hW]
    clear hW
    refine (HR.out _).mono ?_
    rintro e w2 ⟨rfl, hb2⟩
    have HA3 := Lib.hid (HA2.out.below hb2)
    have HB3 := Lib.hid (Below.call HB.out hb2)
    clear hb2
    have q := HA3.out.set (.int .i64 0) (.int .i64 0) (.slice none 0 0)
    obtain ⟨q0, q1, q2, _⟩ := q
    obtain ⟨a0, a1, a2, y0, y1, y2, _⟩ := HA3.out
    go_wp2
    refine bodyPost_ret (v := .tuple #[lgV 0 0 none 0 0, .int .i64 110]) (by simp [results, Try.results15, go_sem, q0, q1, q2]) rfl ⟨rfl, ?_⟩
    exact below_set3 HB3.out (Nat.le_refl _) _ _ _
end Go.Proofs.Ytdghekhkjkkgfaa
