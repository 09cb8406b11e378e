/- Mutexes: who is stuck, round by round: the program. -/
import Derived.Test.YtbflkdkbfidleaaUE
import Derived.Deep.LoopGhost
import Derived.Deep.Cut
namespace Go.Proofs.Ytbflkdkbfidleaa
open Go.RowKit
/-- Nine flags in a block. -/
structure Nine (w : World) (B : Nat) (s : Nat → Bool) : Prop where
  c : ∀ i, i < 9 → w.cell? ⟨B, i, none⟩ = some (.bool (s i))
  z : ∀ i, w.frozen? ⟨B, i, none⟩ = false
theorem Nine.set {w : World} {B : Nat} {s : Nat → Bool} (h : Nine w B s) (k : Nat) (q : Bool) : Nine (w.setCell ⟨B, k, none⟩ (.bool q)) B (fun i => if i = k then q else s i) := by
  refine ⟨fun i hi => ?_, fun i => st_fz (h.z i)⟩
  by_cases e : i = k
  · subst e
    rw [if_pos rfl]
    exact st_same (h.c i hi)
  · rw [if_neg e]
    exact st_other (h.c i hi) (by simp)
theorem Nine.other {w : World} {B C : Nat} {s : Nat → Bool} (h : Nine w B s) (hne : C ≠ B) (k : Nat) (q : Value) : Nine (w.setCell ⟨C, k, none⟩ q) B s :=
  ⟨fun i hi => st_other (h.c i hi) (by simp), fun i => st_fz (h.z i)⟩
theorem Nine.eq {w : World} {B : Nat} {s r : Nat → Bool} (h : Nine w B s) (e : ∀ i, i < 9 → s i = r i) : Nine w B r := ⟨fun i hi => by rw [h.c i hi, e i hi], h.z⟩
def cnt (s : Nat → Bool) : Nat := (s 0).toNat + (s 1).toNat + (s 2).toNat + (s 3).toNat + (s 4).toNat + (s 5).toNat + (s 6).toNat + (s 7).toNat + (s 8).toNat
theorem cnt_set (s : Nat → Bool) (k : Nat) (hk : k < 9) (h : s k = true) : cnt (fun i => if i = k then false else s i) < cnt s := by
  unfold cnt
  rcases (show k = 0 ∨ k = 1 ∨ k = 2 ∨ k = 3 ∨ k = 4 ∨ k = 5 ∨ k = 6 ∨ k = 7 ∨ k = 8 by omega) with rfl | rfl | rfl | rfl | rfl | rfl | rfl | rfl | rfl <;> simp [h]
/-- Where one is who looks for those that get on. -/
structure Rnd (t ws : List Int) (s : Nat → Bool) : Prop where
  z : s 0 = false
  b : ∀ i, ws.length < i → s i = false
  o : ∀ i, s i = false → On (nx t ws) i
theorem Rnd.start (t ws : List Int) : Rnd t ws (fun a => decide (1 ≤ a ∧ a ≤ ws.length)) := by
  refine ⟨by simp, fun i hi => decide_eq_false (by omega), fun i hi => ?_⟩
  have := of_decide_eq_false hi
  refine .step i ?_
  rw [show nx t ws i = 0 from if_neg this]
  exact .zero
theorem Rnd.next {t ws : List Int} {s : Nat → Bool} (h : Rnd t ws s) (k : Nat) (hs : s (nx t ws k) = false) : Rnd t ws (fun i => if i = k then false else s i) := by
  refine ⟨by simp [h.z], fun i hi => by simp [h.b i hi], fun i hi => ?_⟩
  by_cases e : i = k
  · subst e
    exact .step _ (h.o _ hs)
  · rw [if_neg e] at hi
    exact h.o i hi
theorem Rnd.done {t ws : List Int} {s : Nat → Bool} (h : Rnd t ws s) (hc : ∀ j, j < ws.length → s (j + 1) = true → s (nx t ws (j + 1)) = true) (i : Nat) : s i = stB t ws i := by
  by_cases hi : s i = true
  · rw [hi, stB_true]
    intro ho
    refine On.closed (S := fun a => s a = true) (by rw [h.z]; exact Bool.false_ne_true) (fun a ha => ?_) ho hi
    by_cases h0 : a = 0
    · subst h0; rw [h.z] at ha; cases ha
    · by_cases hl : a ≤ ws.length
      · have := hc (a - 1) (by omega)
        rw [show a - 1 + 1 = a by omega] at this
        exact this ha
      · rw [h.b a (by omega)] at ha; cases ha
  · rw [Bool.not_eq_true] at hi
    rw [hi, stB_false (h.o i hi)]
theorem nx_at (t ws : List Int) (j : Nat) (hj : j < ws.length) : nx t ws (j + 1) = (hdV t (ws.getD j 0)).toNat := if_pos (by omega)
set_option maxRecDepth 100000 in
set_option maxHeartbeats 4000000 in
theorem stuck_arms (v u : Value) (t ws : List Int) (w : World) (hv : KI.IsL w w.heap.size v t) (hu : KI.IsL w w.heap.size u ws) (hr : rgO t = true) (hn : ws.length ≤ 8) :
    Calls Try.prog 48 #[v, u] w fun e w' => ∃ s : Nat → Bool, e = .returned (.agg #[.bool (s 0), .bool (s 1), .bool (s 2), .bool (s 3), .bool (s 4), .bool (s 5), .bool (s 6), .bool (s 7), .bool (s 8)]) ∧ (∀ i, i < 9 → s i = stB t ws i) ∧ Below w.heap.size w w' := by
  have HV := Lib.hid hv
  have HU := Lib.hid hu
  obtain ⟨A, c, rfl, hc⟩ := hv.shape
  obtain ⟨A2, c2, rfl, hc2⟩ := hu.shape
  have HH := Lib.hid (fun id => hd_rg hr id)
  clear hv hu hr
  obtain ⟨w0, hw0⟩ : ∃ w0, w0 = (w.alloc (.cells #[.bool false, .bool false, .bool false, .bool false, .bool false, .bool false, .bool false, .bool false, .bool false] 56)).alloc (.cells #[.bool false, .bool false, .bool false, .bool false, .bool false, .bool false, .bool false, .bool false, .bool false] 56) := ⟨_, rfl⟩
  have N0 := Lib.hid (show Nine w0 w.heap.size (fun _ => false) by
    rw [hw0]
    refine ⟨fun i hi => ?_, fun i => by simp [go_sem]⟩
    rcases (show i = 0 ∨ i = 1 ∨ i = 2 ∨ i = 3 ∨ i = 4 ∨ i = 5 ∨ i = 6 ∨ i = 7 ∨ i = 8 by omega) with rfl | rfl | rfl | rfl | rfl | rfl | rfl | rfl | rfl <;> simp [go_sem])
  have N1 := Lib.hid (show Nine w0 (w.heap.size + 1) (fun _ => false) by
    rw [hw0]
    refine ⟨fun i hi => ?_, fun i => by simp [go_sem]⟩
    rcases (show i = 0 ∨ i = 1 ∨ i = 2 ∨ i = 3 ∨ i = 4 ∨ i = 5 ∨ i = 6 ∨ i = 7 ∨ i = 8 by omega) with rfl | rfl | rfl | rfl | rfl | rfl | rfl | rfl | rfl <;> simp [go_sem])
  have HB0 := Lib.hid (show Below w.heap.size w w0 by rw [hw0]; exact Below.al (Below.al (Below.refl _ _) _) _)
  go_enter Try.func48, Try.ntmps48
  go_wp2
  go_step3
  go_wp2
  rw [← hw0]
  clear hw0
  go_loopg [12] ws.length (fun k i wr => ∃ j : Nat, j ≤ ws.length ∧ i = .int .i64 j ∧ k = ws.length - j ∧ Nine wr (w.heap.size + 1) (fun a => decide (1 ≤ a ∧ a ≤ j)) ∧ Nine wr w.heap.size (fun _ => false) ∧ Below w.heap.size w wr)
  case atStart => exact ⟨0, Nat.zero_le _, rfl, by omega, N1.out.eq fun i _ => (decide_eq_false (by omega)).symm, N0.out, HB0.out⟩
  case round =>
    obtain ⟨j, hj, rfl, rfl, hn1, hn0, hbl⟩ := hrel
    have K1 := Lib.hid hn1
    have K0 := Lib.hid hn0
    have HB := Lib.hid hbl
    clear hn1 hn0 hbl
    by_cases hlt : j < ws.length
    · have e1 := K1.out.c (j + 1) (by omega)
      have e2 := K1.out.z (j + 1)
      generalize decide (1 ≤ j + 1 ∧ j + 1 ≤ j) = old at *
      go_wp2
      go_roundg (ws.length - (j + 1))
      case measure => omega
      case rel => exact ⟨j + 1, by omega, num_i (by omega), rfl, (K1.out.set (j + 1) true).eq fun i _ => by
          by_cases e : i = j + 1
          · rw [if_pos e]; exact (decide_eq_true (by omega)).symm
          · rw [if_neg e, decide_eq_decide]; omega, K0.out.other (by omega) _ _, HB.out.setCell (by simp) _⟩
    · obtain rfl : j = ws.length := by omega
      have HS := Lib.hid (Rnd.start t ws)
      go_wp2
      go_step3
      go_wp2
      go_loopg [24] (cnt (fun a => decide (1 ≤ a ∧ a ≤ ws.length)) + 1) (fun k _ wr => ∃ s : Nat → Bool, k = cnt s + 1 ∧ Nine wr (w.heap.size + 1) s ∧ Rnd t ws s ∧ Nine wr w.heap.size (fun _ => false) ∧ Below w.heap.size w wr)
      case atStart => exact ⟨_, rfl, K1.out, HS.out, K0.out, HB.out⟩
      case round =>
        clear HS K1 K0 HB
        obtain ⟨s, rfl, hn1, hrd, hn0, hbl⟩ := hrel
        have K1 := Lib.hid hn1
        have K0 := Lib.hid hn0
        have HB := Lib.hid hbl
        have HR := Lib.hid hrd
        clear hn1 hn0 hbl hrd
        have heq := fun w => run_eq9 s w
        have c0 := K1.out.c 0 (by omega)
        have c1 := K1.out.c 1 (by omega)
        have c2 := K1.out.c 2 (by omega)
        have c3 := K1.out.c 3 (by omega)
        have c4 := K1.out.c 4 (by omega)
        have c5 := K1.out.c 5 (by omega)
        have c6 := K1.out.c 6 (by omega)
        have c7 := K1.out.c 7 (by omega)
        have c8 := K1.out.c 8 (by omega)
        obtain ⟨q, hq⟩ : ∃ q, (!(s 0 || s 1 || s 2 || s 3 || s 4 || s 5 || s 6 || s 7 || s 8)) = q := ⟨_, rfl⟩
        rw [hq] at heq
        have HQ := Lib.hid hq
        clear hq
        cases q
        · go_upto_if 21 with fail
          clear c0 c1 c2 c3 c4 c5 c6 c7 c8
          clear heq
          go_wp2
          obtain ⟨wo, hwo⟩ : ∃ wo, wo = wr := ⟨_, rfl⟩
          subst hwo
          go_loopg [24] ws.length (fun k i wr => wr = wo ∧ ∃ j : Nat, j ≤ ws.length ∧ i = .int .i64 j ∧ k = ws.length - j ∧ ∀ a, a < j → s (a + 1) = true → s (nx t ws (a + 1)) = true)
          case atStart => exact ⟨rfl, 0, Nat.zero_le _, rfl, by omega, fun a ha => absurd ha (Nat.not_lt_zero _)⟩
          case round =>
            obtain ⟨rfl, j, hj, rfl, rfl, hja⟩ := hrel
            have HJ := Lib.hid hja
            clear hja
            by_cases hlt : j < ws.length
            · obtain ⟨b, off, cap', hs, _, hb, _, hcell, _⟩ := KI.cells (HU.out.then HB.out) (by omega)
              simp only [Value.slice.injEq] at hs
              obtain ⟨rfl, _, rfl⟩ := hs
              have e1 := hcell j hlt
              have HX := Lib.hid (nx_at t ws j hlt)
              clear hcell
              generalize ws.getD j 0 = x at *
              have HD := Lib.hid (fun w h => holder_any (.slice A t.length c) t x w h)
              obtain ⟨h0, h8⟩ := HH.out x
              generalize hdV t x = hd at *
              obtain ⟨m, rfl⟩ := Int.eq_ofNat_of_zero_le h0
              rw [show ((m : Int)).toNat = m from rfl] at HX
              have e2 := K1.out.c (j + 1) (by omega)
              have e3 := K1.out.z (j + 1)
              have e4 := K1.out.c m (by omega)
              have HN := Lib.hid (HR.out.next (j + 1))
              have HC := Lib.hid (cnt_set s (j + 1) (by omega))
              rw [HX.out] at HN
              cases hsj : s (j + 1)
              · rw [hsj] at e2
                have HSJ := Lib.hid hsj
                clear hsj e4
                go_wp2
                go_roundg (ws.length - (j + 1))
                case measure => omega
                case rel => exact ⟨rfl, j + 1, by omega, num_i (by omega), rfl, fun a ha hsa => by
                  by_cases e : a = j
                  · subst e; rw [HSJ.out] at hsa; cases hsa
                  · exact HJ.out a (by omega) hsa⟩
              · rw [hsj] at e2
                have HSJ := Lib.hid hsj
                clear hsj
                cases hsm : s m
                · rw [hsm] at e4
                  have HSM := Lib.hid hsm
                  clear hsm
                  go_wp2_with fail
                  refine (HD.out _ (HV.out.then HB.out)).mono ?_
                  rintro e w2 ⟨rfl, rfl⟩
                  go_wp2
                  go_roundg (cnt (fun i => if i = j + 1 then false else s i) + 1)
                  case measure => have := HC.out HSJ.out; omega
                  case rel => exact ⟨_, rfl, K1.out.set (j + 1) false, HN.out HSM.out, K0.out.other (by omega) _ _, HB.out.setCell (by simp) _⟩
                · rw [hsm] at e4
                  have HSM := Lib.hid hsm
                  clear hsm
                  go_wp2_with fail
                  refine (HD.out _ (HV.out.then HB.out)).mono ?_
                  rintro e w2 ⟨rfl, rfl⟩
                  go_wp2
                  go_roundg (ws.length - (j + 1))
                  case measure => omega
                  case rel => exact ⟨rfl, j + 1, by omega, num_i (by omega), rfl, fun a ha hsa => by
                    by_cases e : a = j
                    · subst e; rw [HX.out]; exact HSM.out
                    · exact HJ.out a (by omega) hsa⟩
            · obtain rfl : j = ws.length := by omega
              have c0 := K1.out.c 0 (by omega)
              have c1 := K1.out.c 1 (by omega)
              have c2 := K1.out.c 2 (by omega)
              have c3 := K1.out.c 3 (by omega)
              have c4 := K1.out.c 4 (by omega)
              have c5 := K1.out.c 5 (by omega)
              have c6 := K1.out.c 6 (by omega)
              have c7 := K1.out.c 7 (by omega)
              have c8 := K1.out.c 8 (by omega)
              have z0 := K0.out.c 0 (by omega)
              have z1 := K0.out.c 1 (by omega)
              have z2 := K0.out.c 2 (by omega)
              have z3 := K0.out.c 3 (by omega)
              have z4 := K0.out.c 4 (by omega)
              have z5 := K0.out.c 5 (by omega)
              have z6 := K0.out.c 6 (by omega)
              have z7 := K0.out.c 7 (by omega)
              have z8 := K0.out.c 8 (by omega)
              have y0 := K0.out.z 0
              have y1 := K0.out.z 1
              have y2 := K0.out.z 2
              have y3 := K0.out.z 3
              have y4 := K0.out.z 4
              have y5 := K0.out.z 5
              have y6 := K0.out.z 6
              have y7 := K0.out.z 7
              have y8 := K0.out.z 8
              have HW := Lib.hid (show ∀ i, i < 9 → s i = stB t ws i from fun i _ => HR.out.done (HJ.out) i)
              go_wp2
              rw [Exit.noGoto_ret]
              have N9 := ((((((((K0.out.set 0 (s 0)).set 1 (s 1)).set 2 (s 2)).set 3 (s 3)).set 4 (s 4)).set 5 (s 5)).set 6 (s 6)).set 7 (s 7)).set 8 (s 8)
              have HBL := Lib.hid (show Below w.heap.size w _ from ((((((((HB.out.setCell (Nat.le_refl _) (.bool (s 0)) (p := ⟨w.heap.size, 0, none⟩)).setCell (Nat.le_refl _) (.bool (s 1)) (p := ⟨w.heap.size, 1, none⟩)).setCell (Nat.le_refl _) (.bool (s 2)) (p := ⟨w.heap.size, 2, none⟩)).setCell (Nat.le_refl _) (.bool (s 3)) (p := ⟨w.heap.size, 3, none⟩)).setCell (Nat.le_refl _) (.bool (s 4)) (p := ⟨w.heap.size, 4, none⟩)).setCell (Nat.le_refl _) (.bool (s 5)) (p := ⟨w.heap.size, 5, none⟩)).setCell (Nat.le_refl _) (.bool (s 6)) (p := ⟨w.heap.size, 6, none⟩)).setCell (Nat.le_refl _) (.bool (s 7)) (p := ⟨w.heap.size, 7, none⟩)).setCell (Nat.le_refl _) (.bool (s 8)) (p := ⟨w.heap.size, 8, none⟩))
              generalize (((((((((wr.setCell ⟨w.heap.size, 0, none⟩ (.bool (s 0))).setCell ⟨w.heap.size, 1, none⟩ (.bool (s 1))).setCell ⟨w.heap.size, 2, none⟩ (.bool (s 2))).setCell ⟨w.heap.size, 3, none⟩ (.bool (s 3))).setCell ⟨w.heap.size, 4, none⟩ (.bool (s 4))).setCell ⟨w.heap.size, 5, none⟩ (.bool (s 5))).setCell ⟨w.heap.size, 6, none⟩ (.bool (s 6))).setCell ⟨w.heap.size, 7, none⟩ (.bool (s 7))).setCell ⟨w.heap.size, 8, none⟩ (.bool (s 8))) = V at *
              have N9 := N9.eq (r := s) (fun i hi => by rcases (show i = 0 ∨ i = 1 ∨ i = 2 ∨ i = 3 ∨ i = 4 ∨ i = 5 ∨ i = 6 ∨ i = 7 ∨ i = 8 by omega) with rfl | rfl | rfl | rfl | rfl | rfl | rfl | rfl | rfl <;> rfl)
              have d0 := N9.c 0 (by omega)
              have d1 := N9.c 1 (by omega)
              have d2 := N9.c 2 (by omega)
              have d3 := N9.c 3 (by omega)
              have d4 := N9.c 4 (by omega)
              have d5 := N9.c 5 (by omega)
              have d6 := N9.c 6 (by omega)
              have d7 := N9.c 7 (by omega)
              have d8 := N9.c 8 (by omega)
              refine bodyPost_ret (v := .agg #[.bool (s 0), .bool (s 1), .bool (s 2), .bool (s 3), .bool (s 4), .bool (s 5), .bool (s 6), .bool (s 7), .bool (s 8)]) (by simp [results, Try.results48, go_sem, d0, d1, d2, d3, d4, d5, d6, d7, d8]) rfl ⟨s, rfl, HW.out, HBL.out⟩
        · have z0 := K0.out.c 0 (by omega)
          have z1 := K0.out.c 1 (by omega)
          have z2 := K0.out.c 2 (by omega)
          have z3 := K0.out.c 3 (by omega)
          have z4 := K0.out.c 4 (by omega)
          have z5 := K0.out.c 5 (by omega)
          have z6 := K0.out.c 6 (by omega)
          have z7 := K0.out.c 7 (by omega)
          have z8 := K0.out.c 8 (by omega)
          have y0 := K0.out.z 0
          have y1 := K0.out.z 1
          have y2 := K0.out.z 2
          have y3 := K0.out.z 3
          have y4 := K0.out.z 4
          have y5 := K0.out.z 5
          have y6 := K0.out.z 6
          have y7 := K0.out.z 7
          have y8 := K0.out.z 8
          have HW := Lib.hid (show ∀ i, i < 9 → s i = stB t ws i from fun i _ => HR.out.done (by have := HQ.out; simp only [Bool.not_eq_true', Bool.or_eq_false_iff] at this; intro j hj hs; rcases (show j = 0 ∨ j = 1 ∨ j = 2 ∨ j = 3 ∨ j = 4 ∨ j = 5 ∨ j = 6 ∨ j = 7 by omega) with rfl | rfl | rfl | rfl | rfl | rfl | rfl | rfl <;> simp_all) i)
          go_wp2
          rw [Exit.noGoto_ret]
          have N9 := ((((((((K0.out.set 0 (s 0)).set 1 (s 1)).set 2 (s 2)).set 3 (s 3)).set 4 (s 4)).set 5 (s 5)).set 6 (s 6)).set 7 (s 7)).set 8 (s 8)
          have HBL := Lib.hid (show Below w.heap.size w _ from ((((((((HB.out.setCell (Nat.le_refl _) (.bool (s 0)) (p := ⟨w.heap.size, 0, none⟩)).setCell (Nat.le_refl _) (.bool (s 1)) (p := ⟨w.heap.size, 1, none⟩)).setCell (Nat.le_refl _) (.bool (s 2)) (p := ⟨w.heap.size, 2, none⟩)).setCell (Nat.le_refl _) (.bool (s 3)) (p := ⟨w.heap.size, 3, none⟩)).setCell (Nat.le_refl _) (.bool (s 4)) (p := ⟨w.heap.size, 4, none⟩)).setCell (Nat.le_refl _) (.bool (s 5)) (p := ⟨w.heap.size, 5, none⟩)).setCell (Nat.le_refl _) (.bool (s 6)) (p := ⟨w.heap.size, 6, none⟩)).setCell (Nat.le_refl _) (.bool (s 7)) (p := ⟨w.heap.size, 7, none⟩)).setCell (Nat.le_refl _) (.bool (s 8)) (p := ⟨w.heap.size, 8, none⟩))
          generalize (((((((((wr.setCell ⟨w.heap.size, 0, none⟩ (.bool (s 0))).setCell ⟨w.heap.size, 1, none⟩ (.bool (s 1))).setCell ⟨w.heap.size, 2, none⟩ (.bool (s 2))).setCell ⟨w.heap.size, 3, none⟩ (.bool (s 3))).setCell ⟨w.heap.size, 4, none⟩ (.bool (s 4))).setCell ⟨w.heap.size, 5, none⟩ (.bool (s 5))).setCell ⟨w.heap.size, 6, none⟩ (.bool (s 6))).setCell ⟨w.heap.size, 7, none⟩ (.bool (s 7))).setCell ⟨w.heap.size, 8, none⟩ (.bool (s 8))) = V at *
          have N9 := N9.eq (r := s) (fun i hi => by rcases (show i = 0 ∨ i = 1 ∨ i = 2 ∨ i = 3 ∨ i = 4 ∨ i = 5 ∨ i = 6 ∨ i = 7 ∨ i = 8 by omega) with rfl | rfl | rfl | rfl | rfl | rfl | rfl | rfl | rfl <;> rfl)
          have d0 := N9.c 0 (by omega)
          have d1 := N9.c 1 (by omega)
          have d2 := N9.c 2 (by omega)
          have d3 := N9.c 3 (by omega)
          have d4 := N9.c 4 (by omega)
          have d5 := N9.c 5 (by omega)
          have d6 := N9.c 6 (by omega)
          have d7 := N9.c 7 (by omega)
          have d8 := N9.c 8 (by omega)
          refine bodyPost_ret (v := .agg #[.bool (s 0), .bool (s 1), .bool (s 2), .bool (s 3), .bool (s 4), .bool (s 5), .bool (s 6), .bool (s 7), .bool (s 8)]) (by simp [results, Try.results48, go_sem, d0, d1, d2, d3, d4, d5, d6, d7, d8]) rfl ⟨s, rfl, HW.out, HBL.out⟩
end Go.Proofs.Ytbflkdkbfidleaa
