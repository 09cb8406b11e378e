/- Logs: a change that is refused, by the program and by the reference. -/
import Derived.Test.YtdghekhkjkkgfaaVF
import Derived.Test.YtdghekhkjkkgfaaVC
namespace Go.Proofs.Ytdghekhkjkkgfaa
open Go.RowKit

set_option maxRecDepth 100000 in
set_option maxHeartbeats 1000000 in
theorem note_bad (r l : Int) (A : Option Addr) (c : Nat) (xs : List Ch) (b n : Int) (hE : ntE r l xs b n ≠ 0) (w : World) (hv : KC.IsL w w.heap.size (.slice A xs.length c) xs) : Calls Try.prog 10 #[lgV r l A xs.length c, .int .i64 b, .int .i64 n] w fun e w' =>
    e = .returned (.tuple #[lgV 0 0 none 0 0, .int .i64 (ntE r l xs b n)]) ∧ Below w.heap.size w w' := by
  have HV := Lib.hid hv
  have HR := Lib.hid (fun w h => right_any' r l A c xs w h)
  have HM := Lib.hid (fun w => may_any b n w)
  obtain ⟨w0, hw0⟩ : ∃ w0, w0 = (w.alloc (.cells #[.int .i64 r, .int .i64 l, .slice A xs.length c] 24)).alloc (.cells #[.int .i64 0, .int .i64 0, .slice none 0 0] 24) := ⟨_, rfl⟩
  have HB0 := Lib.hid (show Below w.heap.size w w0 by rw [hw0]; exact Below.al (Below.al (Below.refl _ _) _) _)
  have HA0 := Lib.hid (show Cells3 w0 w.heap.size (.int .i64 r) (.int .i64 l) (.slice A xs.length c) by rw [hw0]; exact (Cells3.new w _ _ _ _).below (Below.al (Below.refl _ _) _))
  have HZ0 := Lib.hid (show Cells3 w0 (w.heap.size + 1) (.int .i64 0) (.int .i64 0) (.slice none 0 0) by
    rw [hw0]
    have q := Cells3.new (w.alloc (.cells #[.int .i64 r, .int .i64 l, .slice A xs.length c] 24)) 24 (.int .i64 0) (.int .i64 0) (.slice none 0 0)
    rw [show (w.alloc (.cells #[.int .i64 r, .int .i64 l, .slice A xs.length c] 24)).heap.size = w.heap.size + 1 by simp] at q
    exact q)
  clear hv
  unfold ntE at hE ⊢
  cases h1 : rgB r l xs
  · rw [if_pos rfl]
    rw [h1] at HR
    clear h1 hE
    go_enter Try.func10, Try.ntmps10
    go_wp2_with fail
    rw [← hw0]
    clear hw0
    obtain ⟨G, hG⟩ : ∃ G, w.heap.size = G := ⟨_, rfl⟩
    rw [hG] at HA0 HZ0
    simp only [hG]
    refine (HR.out _ (HV.out.then HB0.out)).mono ?_
    rintro e w1 ⟨rfl, hb1⟩
    have HA1 := Lib.hid (HA0.out.below hb1)
    have HZ1 := Lib.hid (HZ0.out.below hb1)
    have HB1 := Lib.hid (Below.call HB0.out hb1)
    clear hb1 HA0 HZ0 HB0
    obtain ⟨a0, a1, a2, _⟩ := HA1.out
    obtain ⟨q0, q1, q2, _⟩ := HZ1.out.set (.int .i64 0) (.int .i64 0) (.slice none 0 0)
    obtain ⟨k0, k1, k2, y0, y1, y2, _⟩ := HZ1.out
    go_wp2
    refine bodyPost_ret (v := .tuple #[lgV 0 0 none 0 0, .int .i64 110]) (by simp [results, Try.results10, go_sem, q0, q1, q2]) rfl ⟨rfl, ?_⟩
    exact below_set3 HB1.out (by omega) _ _ _
  · rw [if_neg (by decide)]
    rw [h1] at HR hE
    rw [if_neg (by decide)] at hE
    clear h1
    cases h2 : mayB b n
    · rw [if_pos rfl]
      rw [h2] at HM
      clear h2 hE
      go_enter Try.func10, Try.ntmps10
      go_wp2_with fail
      rw [← hw0]
      clear hw0
      obtain ⟨G, hG⟩ : ∃ G, w.heap.size = G := ⟨_, rfl⟩
      rw [hG] at HA0 HZ0
      simp only [hG]
      refine (HR.out _ (HV.out.then HB0.out)).mono ?_
      rintro e w1 ⟨rfl, hb1⟩
      have HA1 := Lib.hid (HA0.out.below hb1)
      have HZ1 := Lib.hid (HZ0.out.below hb1)
      have HB1 := Lib.hid (Below.call HB0.out hb1)
      clear hb1 HA0 HZ0 HB0
      obtain ⟨a0, a1, a2, _⟩ := HA1.out
      go_wp2_with fail
      refine (HM.out _).mono ?_
      rintro e w2 ⟨rfl, rfl⟩
      obtain ⟨q0, q1, q2, _⟩ := HZ1.out.set (.int .i64 0) (.int .i64 0) (.slice none 0 0)
      obtain ⟨k0, k1, k2, y0, y1, y2, _⟩ := HZ1.out
      go_wp2
      refine bodyPost_ret (v := .tuple #[lgV 0 0 none 0 0, .int .i64 1]) (by simp [results, Try.results10, go_sem, q0, q1, q2]) rfl ⟨rfl, ?_⟩
      exact below_set3 HB1.out (by omega) _ _ _
    · rw [if_neg (by decide)]
      rw [h2] at HM hE
      rw [if_neg (by decide)] at hE
      clear h2
      have h3 : l = 2147483647 := by
        by_cases h : l = 2147483647
        · exact h
        · rw [if_neg h] at hE; exact absurd rfl hE
      rw [if_pos h3]
      subst h3
      clear hE
      go_enter Try.func10, Try.ntmps10
      go_wp2_with fail
      rw [← hw0]
      clear hw0
      obtain ⟨G, hG⟩ : ∃ G, w.heap.size = G := ⟨_, rfl⟩
      rw [hG] at HA0 HZ0
      simp only [hG]
      refine (HR.out _ (HV.out.then HB0.out)).mono ?_
      rintro e w1 ⟨rfl, hb1⟩
      have HA1 := Lib.hid (HA0.out.below hb1)
      have HZ1 := Lib.hid (HZ0.out.below hb1)
      have HB1 := Lib.hid (Below.call HB0.out hb1)
      clear hb1 HA0 HZ0 HB0
      obtain ⟨a0, a1, a2, _⟩ := HA1.out
      go_wp2_with fail
      refine (HM.out _).mono ?_
      rintro e w2 ⟨rfl, rfl⟩
      obtain ⟨q0, q1, q2, _⟩ := HZ1.out.set (.int .i64 0) (.int .i64 0) (.slice none 0 0)
      obtain ⟨k0, k1, k2, y0, y1, y2, _⟩ := HZ1.out
      go_wp2
      refine bodyPost_ret (v := .tuple #[lgV 0 0 none 0 0, .int .i64 101]) (by simp [results, Try.results10, go_sem, q0, q1, q2]) rfl ⟨rfl, ?_⟩
      exact below_set3 HB1.out (by omega) _ _ _

set_option maxRecDepth 100000 in
set_option maxHeartbeats 1000000 in
theorem rnote_bad (r l : Int) (A : Option Addr) (c : Nat) (xs : List Ch) (b n : Int) (hE : ntE r l xs b n ≠ 0) (w : World) (hv : KC.IsL w w.heap.size (.slice A xs.length c) xs) : Calls Try.prog 11 #[lgV r l A xs.length c, .int .i64 b, .int .i64 n] w fun e w' =>
    e = .returned (.tuple #[lgV 0 0 none 0 0, .int .i64 (ntE r l xs b n)]) ∧ Below w.heap.size w w' := by
  have HV := Lib.hid hv
  have HR := Lib.hid (fun w h => rlright_any r l A c xs w h)
  have HM := Lib.hid (fun w => rmay_any b n w)
  obtain ⟨w0, hw0⟩ : ∃ w0, w0 = (w.alloc (.cells #[.int .i64 r, .int .i64 l, .slice A xs.length c] 24)).alloc (.cells #[.int .i64 0, .int .i64 0, .slice none 0 0] 24) := ⟨_, rfl⟩
  have HB0 := Lib.hid (show Below w.heap.size w w0 by rw [hw0]; exact Below.al (Below.al (Below.refl _ _) _) _)
  have HA0 := Lib.hid (show Cells3 w0 w.heap.size (.int .i64 r) (.int .i64 l) (.slice A xs.length c) by rw [hw0]; exact (Cells3.new w _ _ _ _).below (Below.al (Below.refl _ _) _))
  have HZ0 := Lib.hid (show Cells3 w0 (w.heap.size + 1) (.int .i64 0) (.int .i64 0) (.slice none 0 0) by
    rw [hw0]
    have q := Cells3.new (w.alloc (.cells #[.int .i64 r, .int .i64 l, .slice A xs.length c] 24)) 24 (.int .i64 0) (.int .i64 0) (.slice none 0 0)
    rw [show (w.alloc (.cells #[.int .i64 r, .int .i64 l, .slice A xs.length c] 24)).heap.size = w.heap.size + 1 by simp] at q
    exact q)
  clear hv
  unfold ntE at hE ⊢
  cases h1 : rgB r l xs
  · rw [if_pos rfl]
    rw [h1] at HR
    clear h1 hE
    go_enter Try.func11, Try.ntmps11
    go_wp2_with fail
    rw [← hw0]
    clear hw0
    obtain ⟨G, hG⟩ : ∃ G, w.heap.size = G := ⟨_, rfl⟩
    rw [hG] at HA0 HZ0
    simp only [hG]
    refine (HR.out _ (HV.out.then HB0.out)).mono ?_
    rintro e w1 ⟨rfl, hb1⟩
    have HA1 := Lib.hid (HA0.out.below hb1)
    have HZ1 := Lib.hid (HZ0.out.below hb1)
    have HB1 := Lib.hid (Below.call HB0.out hb1)
    clear hb1 HA0 HZ0 HB0
    obtain ⟨a0, a1, a2, _⟩ := HA1.out
    obtain ⟨q0, q1, q2, _⟩ := HZ1.out.set (.int .i64 0) (.int .i64 0) (.slice none 0 0)
    obtain ⟨k0, k1, k2, y0, y1, y2, _⟩ := HZ1.out
    go_wp2
    refine bodyPost_ret (v := .tuple #[lgV 0 0 none 0 0, .int .i64 110]) (by simp [results, Try.results11, go_sem, q0, q1, q2]) rfl ⟨rfl, ?_⟩
    exact below_set3 HB1.out (by omega) _ _ _
  · rw [if_neg (by decide)]
    rw [h1] at HR hE
    rw [if_neg (by decide)] at hE
    clear h1
    cases h2 : mayB b n
    · rw [if_pos rfl]
      rw [h2] at HM
      clear h2 hE
      go_enter Try.func11, Try.ntmps11
      go_wp2_with fail
      rw [← hw0]
      clear hw0
      obtain ⟨G, hG⟩ : ∃ G, w.heap.size = G := ⟨_, rfl⟩
      rw [hG] at HA0 HZ0
      simp only [hG]
      refine (HR.out _ (HV.out.then HB0.out)).mono ?_
      rintro e w1 ⟨rfl, hb1⟩
      have HA1 := Lib.hid (HA0.out.below hb1)
      have HZ1 := Lib.hid (HZ0.out.below hb1)
      have HB1 := Lib.hid (Below.call HB0.out hb1)
      clear hb1 HA0 HZ0 HB0
      obtain ⟨a0, a1, a2, _⟩ := HA1.out
      go_wp2_with fail
      refine (HM.out _).mono ?_
      rintro e w2 ⟨rfl, rfl⟩
      obtain ⟨q0, q1, q2, _⟩ := HZ1.out.set (.int .i64 0) (.int .i64 0) (.slice none 0 0)
      obtain ⟨k0, k1, k2, y0, y1, y2, _⟩ := HZ1.out
      go_wp2
      refine bodyPost_ret (v := .tuple #[lgV 0 0 none 0 0, .int .i64 1]) (by simp [results, Try.results11, go_sem, q0, q1, q2]) rfl ⟨rfl, ?_⟩
      exact below_set3 HB1.out (by omega) _ _ _
    · rw [if_neg (by decide)]
      rw [h2] at HM hE
      rw [if_neg (by decide)] at hE
      clear h2
      have h3 : l = 2147483647 := by
        by_cases h : l = 2147483647
        · exact h
        · rw [if_neg h] at hE; exact absurd rfl hE
      rw [if_pos h3]
      subst h3
      clear hE
      go_enter Try.func11, Try.ntmps11
      go_wp2_with fail
      rw [← hw0]
      clear hw0
      obtain ⟨G, hG⟩ : ∃ G, w.heap.size = G := ⟨_, rfl⟩
      rw [hG] at HA0 HZ0
      simp only [hG]
      refine (HR.out _ (HV.out.then HB0.out)).mono ?_
      rintro e w1 ⟨rfl, hb1⟩
      have HA1 := Lib.hid (HA0.out.below hb1)
      have HZ1 := Lib.hid (HZ0.out.below hb1)
      have HB1 := Lib.hid (Below.call HB0.out hb1)
      clear hb1 HA0 HZ0 HB0
      obtain ⟨a0, a1, a2, _⟩ := HA1.out
      go_wp2_with fail
      refine (HM.out _).mono ?_
      rintro e w2 ⟨rfl, rfl⟩
      obtain ⟨q0, q1, q2, _⟩ := HZ1.out.set (.int .i64 0) (.int .i64 0) (.slice none 0 0)
      obtain ⟨k0, k1, k2, y0, y1, y2, _⟩ := HZ1.out
      go_wp2
      refine bodyPost_ret (v := .tuple #[lgV 0 0 none 0 0, .int .i64 101]) (by simp [results, Try.results11, go_sem, q0, q1, q2]) rfl ⟨rfl, ?_⟩
      exact below_set3 HB1.out (by omega) _ _ _
end Go.Proofs.Ytdghekhkjkkgfaa
