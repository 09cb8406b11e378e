/- The law on tools that reach further. -/
import Derived.Test.YtegghoniboebkaaFO
namespace Go.Proofs.Ytegghoniboebkaa
open Go.RowKit

/-- A tool that reaches further. -/
theorem grows (l : List Nat) (x r m : Nat) (hr64 : r < 18446744073709551616) (hm64 : m < 18446744073709551616) (hle : leb r m = true) (h0 : (rch l x r).2.2 = 0) :
    (rch l x m).2.2 ≠ 71 ∧ ((rch l x m).2.2 = 0 → (rch l x m).1 ≤ (rch l x r).1 ∧ (rch l x r).2.1 ≤ (rch l x m).2.1) := by
  obtain ⟨hz, hx, hy, hl, a, q, es, ea, ho, e⟩ := rch_ok l x r h0
  have hrise := rise_of l hz
  obtain ⟨nr, nm, hv⟩ := (leb_iff r m).1 hle
  have nx := nanb_of hx
  have hm : nanb m = false := by unfold nanb; exact decide_eq_false nm
  have v0 := ltb_0 r nr hl
  have n0 : ¬ nan 0 := by unfold nan; omega
  have hlm : ltb m 0 = false := by rw [ltb_num nm n0, vf_0]; exact decide_eq_false (by omega)
  obtain ⟨na, nq, v1, v2⟩ := sub_le_add x r a q hr64 nx nr v0 es ea
  rcases es' : Ieee.double.sub x m with _ | a'
  · rw [rch_none l x m hz hx hm hlm (.inl es')]
    exact ⟨by decide, fun h => absurd h (by decide)⟩
  · rcases ea' : Ieee.double.add x m with _ | q'
    · rw [rch_none l x m hz hx hm hlm (.inr ea')]
      exact ⟨by decide, fun h => absurd h (by decide)⟩
    · obtain ⟨na', nq', v3, v4⟩ := sub_le_add x m a' q' hm64 nx nm (by omega) es' ea'
      have hxv := xv_mono nr nm hv
      have ha : vf a' ≤ vf a := by
        obtain ⟨p, e1, _, _, w1⟩ := sub_some x r hr64 nx nr (fun h => by rw [sub_none x r hr64 (.inr (.inr h))] at es; cases es)
        obtain ⟨p', e1', _, _, w1'⟩ := sub_some x m hm64 nx nm (fun h => by rw [sub_none x m hm64 (.inr (.inr h))] at es'; cases es')
        rw [es] at e1; cases e1
        rw [es'] at e1'; cases e1'
        rw [w1, w1']
        exact RI_mono (by omega)
      have hq : vf q ≤ vf q' := by
        obtain ⟨p, e1, _, _, w1⟩ := add_some x r nx nr (fun h => by rw [add_none x r (.inr (.inr h))] at ea; cases ea)
        obtain ⟨p', e1', _, _, w1'⟩ := add_some x m nx nm (fun h => by rw [add_none x m (.inr (.inr h))] at ea'; cases ea')
        rw [ea] at e1; cases e1
        rw [ea'] at e1'; cases e1'
        rw [w1, w1']
        exact RI_mono (by omega)
      obtain ⟨o1, o2⟩ := (out_iff l hrise a q na nq).1 ho
      have ho' : outB l a' q' = false := (out_iff l hrise a' q' na' nq').2 ⟨by omega, by omega⟩
      have e' := rch_some l x m a' q' hz hx hm hlm es' ea'
      unfold tLo tHi tEr at e'
      rw [if_neg (by rw [ho']; simp), if_neg (by rw [ho']; simp), if_neg (by rw [ho']; simp)] at e'
      rw [e, e']
      exact ⟨show (0 : Int) ≠ 71 by decide, fun _ => ⟨lo_mono l hrise a' a na' na ha, hi_mono l hrise q q' nq nq' o2 hq⟩⟩

set_option maxRecDepth 100000 in
set_option maxHeartbeats 4000000 in
theorem railGrows_walk (v : Value) (xs : List Nat) (x r m : Nat) (h1 : r < 18446744073709551616) (h2 : m < 18446744073709551616) (w : World) (h : KF.IsL w w.heap.size v xs) : Calls Try.prog 6 #[v, .float .f64 x, .float .f64 r, .float .f64 m] w (Good w) := by
  have ole : (FloatKind.f64.format.order r m == some .lt || FloatKind.f64.format.order r m == some .eq) = leb r m := rfl
  by_cases h60 : 60 < xs.length ∨ leb r m = false
  · obtain ⟨⟨A, cap, hv, hc, hA⟩, hf, hl⟩ := h
    subst hv
    clear hA hf
    by_cases h6 : 60 < xs.length
    · clear h60
      go_enter Try.func6, Try.ntmps6
      go_wp2_with fail
      refine (lives7 _).mono ?_
      rintro e w1 ⟨rfl, hb⟩
      have HB := Lib.hid hb
      clear hb
      go_wp2_with fail
      go_ret
      exact ⟨rfl, HB.out⟩
    · have hle : leb r m = false := by
        rcases h60 with h | h
        · exact absurd h h6
        · exact h
      clear h60
      go_enter Try.func6, Try.ntmps6
      go_wp2_with fail
      refine (lives7 _).mono ?_
      rintro e w1 ⟨rfl, hb⟩
      have HB := Lib.hid hb
      clear hb
      go_wp2_with fail
      go_ret
      exact ⟨rfl, HB.out⟩
  have h6 : ¬ 60 < xs.length := fun hh => h60 (.inl hh)
  have hle : leb r m = true := by
    rw [← Bool.not_eq_false]
    exact fun hh => h60 (.inr hh)
  have HR1 := Lib.hid (fun w h => reach_any v xs x r h1 w h)
  have HR2 := Lib.hid (fun w h => reach_any v xs x m h2 w h)
  have HG := Lib.hid (grows xs x r m h1 h2 hle)
  have HI := Lib.hid h
  obtain ⟨⟨A, cap, hv, hc, hA⟩, hf, hl⟩ := h
  subst hv
  clear hA hf h60
  generalize rch xs x r = t at *
  generalize rch xs x m = u at *
  obtain ⟨lo, hi, c⟩ := t
  obtain ⟨la, ha, c2⟩ := u
  unfold rchVal at HR1 HR2
  dsimp only at HR1 HR2 HG
  by_cases hc0 : c = 0
  · subst hc0
    obtain ⟨g1, g2⟩ := HG.out rfl
    clear HG
    by_cases hc2 : c2 = 0
    · subst hc2
      obtain ⟨k1, k2⟩ := g2 rfl
      clear g1 g2
      go_enter Try.func6, Try.ntmps6
      go_wp2_with fail
      refine (HR1.out w HI.out).mono ?_
      rintro e w1 ⟨rfl, hb1⟩
      have hI1 := HI.out.then hb1
      go_wp2_with fail
      have hI2 := hI1.then (Below.al (Below.refl _ _) (.cells #[.int .i64 lo, .int .i64 hi] 35))
      have hB2 := Below.al hb1 (.cells #[.int .i64 lo, .int .i64 hi] 35)
      have hs0 : (w1.alloc (.cells #[.int .i64 lo, .int .i64 hi] 35)).cell? ⟨w1.heap.size, 0, none⟩ = some (.int .i64 lo) := by simp
      have hs1 : (w1.alloc (.cells #[.int .i64 lo, .int .i64 hi] 35)).cell? ⟨w1.heap.size, 1, none⟩ = some (.int .i64 hi) := by simp
      generalize w1.alloc (.cells #[.int .i64 lo, .int .i64 hi] 35) = w2 at hI2 hB2 hs0 hs1 ⊢
      generalize w1.heap.size = g1 at hs0 hs1 ⊢
      have HI2 := Lib.hid hI2
      have HB2 := Lib.hid hB2
      clear hI1 hI2 hB2 hb1
      refine (HR2.out w2 HI2.out).mono ?_
      rintro e w3 ⟨rfl, hb3⟩
      have hB3 := Below.call HB2.out hb3
      have hs0' := keep_cell hb3 hs0
      have hs1' := keep_cell hb3 hs1
      clear hs0 hs1 hb3
      go_wp2_with fail
      have hB4 := Below.al hB3 (.cells #[.int .i64 la, .int .i64 ha] 35)
      have hp0 : (w3.alloc (.cells #[.int .i64 la, .int .i64 ha] 35)).cell? ⟨w3.heap.size, 0, none⟩ = some (.int .i64 la) := by simp
      have hp1 : (w3.alloc (.cells #[.int .i64 la, .int .i64 ha] 35)).cell? ⟨w3.heap.size, 1, none⟩ = some (.int .i64 ha) := by simp
      have hs0 := keep_cell (Below.al (Below.refl _ _) (.cells #[.int .i64 la, .int .i64 ha] 35)) hs0'
      have hs1 := keep_cell (Below.al (Below.refl _ _) (.cells #[.int .i64 la, .int .i64 ha] 35)) hs1'
      clear hs0' hs1'
      generalize w3.alloc (.cells #[.int .i64 la, .int .i64 ha] 35) = w4 at hB4 hs0 hs1 hp0 hp1 ⊢
      generalize w3.heap.size = g2 at hp0 hp1 ⊢
      have HB4 := Lib.hid hB4
      clear hB3 hB4 HI2 HB2
      refine (lives7 _).mono ?_
      rintro e w5 ⟨rfl, hb5⟩
      have s0 := keep_cell hb5 hs0
      have s1 := keep_cell hb5 hs1
      have p0 := keep_cell hb5 hp0
      have p1 := keep_cell hb5 hp1
      have HB5 := Lib.hid (Below.call HB4.out hb5)
      clear hs0 hs1 hp0 hp1 hb5 HB4
      go_wp2_with fail
      go_ret
      exact ⟨ret_b (by simp), HB5.out⟩
    · have f1 : (c2 == 71) = false := by rw [beq_eq_false_iff_ne]; exact g1
      have f2 : (c2 != 0) = true := by rw [bne_iff_ne]; exact hc2
      clear g1 g2 hc2
      go_enter Try.func6, Try.ntmps6
      go_wp2_with fail
      refine (HR1.out w HI.out).mono ?_
      rintro e w1 ⟨rfl, hb1⟩
      have hI1 := HI.out.then hb1
      go_wp2_with fail
      have hI2 := hI1.then (Below.al (Below.refl _ _) (.cells #[.int .i64 lo, .int .i64 hi] 35))
      have hB2 := Below.al hb1 (.cells #[.int .i64 lo, .int .i64 hi] 35)
      have hs0 : (w1.alloc (.cells #[.int .i64 lo, .int .i64 hi] 35)).cell? ⟨w1.heap.size, 0, none⟩ = some (.int .i64 lo) := by simp
      have hs1 : (w1.alloc (.cells #[.int .i64 lo, .int .i64 hi] 35)).cell? ⟨w1.heap.size, 1, none⟩ = some (.int .i64 hi) := by simp
      generalize w1.alloc (.cells #[.int .i64 lo, .int .i64 hi] 35) = w2 at hI2 hB2 hs0 hs1 ⊢
      generalize w1.heap.size = g1 at hs0 hs1 ⊢
      have HI2 := Lib.hid hI2
      have HB2 := Lib.hid hB2
      clear hI1 hI2 hB2 hb1
      refine (HR2.out w2 HI2.out).mono ?_
      rintro e w3 ⟨rfl, hb3⟩
      have hB3 := Below.call HB2.out hb3
      have hs0' := keep_cell hb3 hs0
      have hs1' := keep_cell hb3 hs1
      clear hs0 hs1 hb3
      go_wp2_with fail
      have hB4 := Below.al hB3 (.cells #[.int .i64 la, .int .i64 ha] 35)
      have hp0 : (w3.alloc (.cells #[.int .i64 la, .int .i64 ha] 35)).cell? ⟨w3.heap.size, 0, none⟩ = some (.int .i64 la) := by simp
      have hp1 : (w3.alloc (.cells #[.int .i64 la, .int .i64 ha] 35)).cell? ⟨w3.heap.size, 1, none⟩ = some (.int .i64 ha) := by simp
      have hs0 := keep_cell (Below.al (Below.refl _ _) (.cells #[.int .i64 la, .int .i64 ha] 35)) hs0'
      have hs1 := keep_cell (Below.al (Below.refl _ _) (.cells #[.int .i64 la, .int .i64 ha] 35)) hs1'
      clear hs0' hs1'
      generalize w3.alloc (.cells #[.int .i64 la, .int .i64 ha] 35) = w4 at hB4 hs0 hs1 hp0 hp1 ⊢
      generalize w3.heap.size = g2 at hp0 hp1 ⊢
      have HB4 := Lib.hid hB4
      clear hB3 hB4 HI2 HB2
      refine (lives7 _).mono ?_
      rintro e w5 ⟨rfl, hb5⟩
      have s0 := keep_cell hb5 hs0
      have s1 := keep_cell hb5 hs1
      have p0 := keep_cell hb5 hp0
      have p1 := keep_cell hb5 hp1
      have HB5 := Lib.hid (Below.call HB4.out hb5)
      clear hs0 hs1 hp0 hp1 hb5 HB4
      go_wp2_with fail
      go_ret
      exact ⟨rfl, HB5.out⟩
  · have f1 : (c == 0) = false := by rw [beq_eq_false_iff_ne]; exact hc0
    have f2 : (c != 0) = true := by rw [bne_iff_ne]; exact hc0
    clear hc0 HG
    go_enter Try.func6, Try.ntmps6
    go_wp2_with fail
    refine (HR1.out w HI.out).mono ?_
    rintro e w1 ⟨rfl, hb1⟩
    have hI1 := HI.out.then hb1
    go_wp2_with fail
    have hI2 := hI1.then (Below.al (Below.refl _ _) (.cells #[.int .i64 lo, .int .i64 hi] 35))
    have hB2 := Below.al hb1 (.cells #[.int .i64 lo, .int .i64 hi] 35)
    have hs0 : (w1.alloc (.cells #[.int .i64 lo, .int .i64 hi] 35)).cell? ⟨w1.heap.size, 0, none⟩ = some (.int .i64 lo) := by simp
    have hs1 : (w1.alloc (.cells #[.int .i64 lo, .int .i64 hi] 35)).cell? ⟨w1.heap.size, 1, none⟩ = some (.int .i64 hi) := by simp
    generalize w1.alloc (.cells #[.int .i64 lo, .int .i64 hi] 35) = w2 at hI2 hB2 hs0 hs1 ⊢
    generalize w1.heap.size = g1 at hs0 hs1 ⊢
    have HI2 := Lib.hid hI2
    have HB2 := Lib.hid hB2
    clear hI1 hI2 hB2 hb1
    refine (HR2.out w2 HI2.out).mono ?_
    rintro e w3 ⟨rfl, hb3⟩
    have hB3 := Below.call HB2.out hb3
    have hs0' := keep_cell hb3 hs0
    have hs1' := keep_cell hb3 hs1
    clear hs0 hs1 hb3
    go_wp2_with fail
    have hB4 := Below.al hB3 (.cells #[.int .i64 la, .int .i64 ha] 35)
    have hp0 : (w3.alloc (.cells #[.int .i64 la, .int .i64 ha] 35)).cell? ⟨w3.heap.size, 0, none⟩ = some (.int .i64 la) := by simp
    have hp1 : (w3.alloc (.cells #[.int .i64 la, .int .i64 ha] 35)).cell? ⟨w3.heap.size, 1, none⟩ = some (.int .i64 ha) := by simp
    have hs0 := keep_cell (Below.al (Below.refl _ _) (.cells #[.int .i64 la, .int .i64 ha] 35)) hs0'
    have hs1 := keep_cell (Below.al (Below.refl _ _) (.cells #[.int .i64 la, .int .i64 ha] 35)) hs1'
    clear hs0' hs1'
    generalize w3.alloc (.cells #[.int .i64 la, .int .i64 ha] 35) = w4 at hB4 hs0 hs1 hp0 hp1 ⊢
    generalize w3.heap.size = g2 at hp0 hp1 ⊢
    have HB4 := Lib.hid hB4
    clear hB3 hB4 HI2 HB2
    refine (lives7 _).mono ?_
    rintro e w5 ⟨rfl, hb5⟩
    have s0 := keep_cell hb5 hs0
    have s1 := keep_cell hb5 hs1
    have p0 := keep_cell hb5 hp0
    have p1 := keep_cell hb5 hp1
    have HB5 := Lib.hid (Below.call HB4.out hb5)
    clear hs0 hs1 hp0 hp1 hb5 HB4
    go_wp2_with fail
    go_ret
    exact ⟨rfl, HB5.out⟩
end Go.Proofs.Ytegghoniboebkaa
