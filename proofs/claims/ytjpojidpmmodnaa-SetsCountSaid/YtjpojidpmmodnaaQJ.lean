/- The laws on sets: the set of any list, and what two sets have together. -/
import Derived.Test.YtjpojidpmmodnaaQI
namespace Go.Proofs.Ytjpojidpmmodnaa
open Go.RowKit

theorem IsL.at {w W : World} {v : Value} {xs : List Int} (h : IsL w w.heap.size v xs) (hb : Below w.heap.size w W) : IsL W W.heap.size v xs := (h.below hb).more hb.size
theorem drew_below (w : World) (d : Nat) : Below w.heap.size w (w.drewN d) := below_drewN (Below.refl _ _) d
theorem same_true (v u : Value) (xs : List Int) (w : World) (h : IsL w w.heap.size v xs) (hy : IsL w w.heap.size u xs) : Calls Try.prog 32 #[v, u] w fun e w' => e = .returned (.bool true) ∧ ∃ d, w' = w.drewN d := by
  have k := same_any v u xs xs w h hy
  rwa [decide_eq_true rfl] at k
theorem right_true (v : Value) (xs : List Int) (w : World) (h : IsL w w.heap.size v xs) (hi : Inc xs) : Calls Try.prog 34 #[v] w fun e w' => e = .returned (.bool true) ∧ ∃ d, w' = w.drewN d := by
  have k := right_any v xs w h
  rwa [decide_eq_true hi] at k
theorem has_mk (v : Value) (xs : List Int) (n : Int) (w : World) (h : IsL w w.heap.size v (mk xs)) : Calls Try.prog 38 #[v, .int .i64 n] w fun e w' => e = .returned (.bool (decide (n ∈ xs))) ∧ w = w' := by
  have k := has_any v (mk xs) n w h (inc_mk xs)
  rwa [show decide (n ∈ mk xs) = decide (n ∈ xs) from decide_eq_decide.2 (mem_mk xs n)] at k
theorem IsL.len_eq {w : World} {B : Nat} {v : Value} {xs : List Int} (h : IsL w B v xs) : ∃ A cap, v = .slice A xs.length cap := by
  obtain ⟨⟨A, cap, h, _⟩, _⟩ := h
  exact ⟨A, cap, h⟩

set_option maxHeartbeats 2000000 in
theorem setsFrom_walk (v : Value) (xs : List Int) (n : Int) {w : World} (h : IsL w w.heap.size v xs) (_ : fits n) : Calls Try.prog 8 #[v, .int .i64 n] w fun e w' => e = .returned (.bool true) ∧ Below w.heap.size w w' := by
  have HV := Lib.hid h
  obtain ⟨A, cap, rfl⟩ := h.len_eq
  have HB := Lib.hid (Below.refl w.heap.size w)
  clear h
  by_cases h200 : xs.length ≤ 200
  · go_enter Try.func8, Try.ntmps8
    go_wp2_with fail
    refine (from_any _ xs _ HV.out (by omega)).mono ?_
    rintro e w1 ⟨s, rfl, hnew, hb⟩
    replace HV := Lib.hid (HV.out.at hb)
    replace HB := Lib.hid (HB.out.trans (hb.mono HB.out.size))
    clear hb
    have HS := Lib.hid hnew
    clear hnew
    go_wp2_with fail
    refine (lives4 _).mono ?_
    rintro e w2 ⟨rfl, hb⟩
    replace HV := Lib.hid (HV.out.at hb)
    replace HS := Lib.hid (HS.out.at hb)
    replace HB := Lib.hid (HB.out.trans (hb.mono HB.out.size))
    clear hb
    go_wp2_with fail
    refine (rfrom_any _ xs _ HV.out (by omega)).mono ?_
    rintro e w3 ⟨r, rfl, hnew, hb⟩
    replace HV := Lib.hid (HV.out.at hb)
    replace HS := Lib.hid (HS.out.at hb)
    replace HB := Lib.hid (HB.out.trans (hb.mono HB.out.size))
    clear hb
    have HR := Lib.hid hnew
    clear hnew
    go_wp2_with fail
    refine (same_true _ _ (mk xs) _ HS.out HR.out).mono ?_
    rintro e w' ⟨rfl, d3, rfl⟩
    have hb := drew_below w3 d3
    replace HV := Lib.hid (HV.out.at hb)
    replace HS := Lib.hid (HS.out.at hb)
    replace HR := Lib.hid (HR.out.at hb)
    replace HB := Lib.hid (HB.out.trans (hb.mono HB.out.size))
    clear hb
    go_wp2_with fail
    refine (right_any _ xs _ HV.out).mono ?_
    rintro e w' ⟨rfl, d4, rfl⟩
    have hb := drew_below (w3.drewN (d3)) d4
    rw [World.drewN_drewN] at hb
    replace HV := Lib.hid (HV.out.at hb)
    replace HS := Lib.hid (HS.out.at hb)
    replace HR := Lib.hid (HR.out.at hb)
    replace HB := Lib.hid (HB.out.trans (hb.mono HB.out.size))
    clear hb
    go_wp2_with fail
    refine (rright_any _ xs _ HV.out).mono ?_
    rintro e w' ⟨rfl, d5, rfl⟩
    have hb := drew_below (w3.drewN (d3 + d4)) d5
    rw [World.drewN_drewN] at hb
    replace HV := Lib.hid (HV.out.at hb)
    replace HS := Lib.hid (HS.out.at hb)
    replace HR := Lib.hid (HR.out.at hb)
    replace HB := Lib.hid (HB.out.trans (hb.mono HB.out.size))
    clear hb
    go_wp2_with fail
    refine (right_true _ (mk xs) _ HS.out (inc_mk xs)).mono ?_
    rintro e w' ⟨rfl, d6, rfl⟩
    have hb := drew_below (w3.drewN (d3 + d4 + d5)) d6
    rw [World.drewN_drewN] at hb
    replace HV := Lib.hid (HV.out.at hb)
    replace HS := Lib.hid (HS.out.at hb)
    replace HR := Lib.hid (HR.out.at hb)
    replace HB := Lib.hid (HB.out.trans (hb.mono HB.out.size))
    clear hb
    go_wp2_with fail
    refine (twice_any _ xs _ HV.out (by omega)).mono ?_
    rintro e wt ⟨⟨t, rfl, ht⟩, hb⟩
    have HT := Lib.hid ht
    clear ht
    replace HV := Lib.hid (HV.out.at hb)
    replace HS := Lib.hid (HS.out.at hb)
    replace HR := Lib.hid (HR.out.at hb)
    replace HB := Lib.hid (HB.out.trans (hb.mono HB.out.size))
    clear hb
    go_wp2_with fail
    refine (rtwice_any _ xs _ HV.out).mono ?_
    rintro e w' ⟨⟨t2, rfl, ht2⟩, dq, rfl⟩
    obtain rfl := HT.out.uniq ht2
    clear ht2
    have hb := drew_below wt dq
    replace HV := Lib.hid (HV.out.at hb)
    replace HS := Lib.hid (HS.out.at hb)
    replace HR := Lib.hid (HR.out.at hb)
    replace HB := Lib.hid (HB.out.trans (hb.mono HB.out.size))
    clear hb
    go_wp2_with fail
    refine (has_mk _ xs n _ HS.out).mono ?_
    rintro e w' ⟨rfl, rfl⟩
    go_wp2_with fail
    refine (in_any _ xs n _ HV.out).mono ?_
    rintro e w' ⟨rfl, rfl⟩
    obtain ⟨wz, hwz⟩ : ∃ wz, wz = wt.drewN dq := ⟨_, rfl⟩
    rw [← hwz] at HV HS HB ⊢
    clear hwz
    go_wp2
    go_loop [6] (fun i => ∃ k : Nat, k ≤ xs.length ∧ i = .int .i64 (k : Int)) (fun i => xs.length - (intOf i).toNat)
    case atStart => exact ⟨0, Nat.zero_le _, rfl⟩
    case round =>
      obtain ⟨k, hk, rfl⟩ := hrel
      by_cases hlt : k < xs.length
      · obtain ⟨⟨A', cap', he, hcap, hA⟩, _, _⟩ := HV.out
        obtain ⟨b, off, rfl, hb, hc⟩ := hA (by omega)
        injection he with he1 he2 he3
        subst he1
        subst he3
        have hx := hc k hlt
        have hh := has_mk _ xs (xs.getD k 0) _ HS.out
        rw [decide_eq_true (getD_mem xs k hlt)] at hh
        have HH := Lib.hid hh
        clear hh hc hA hb
        generalize xs.getD k 0 = x at *
        go_wp2_with fail
        refine (HH.out).mono ?_
        rintro e w' ⟨rfl, rfl⟩
        go_wp2
        go_round
        case rel => exact ⟨k + 1, by omega, num_i (by omega)⟩
        case measure => simp [intOf]; omega
      · obtain ⟨A2, cap2, rfl⟩ := HS.out.len_eq
        have HLE := Lib.hid HT.out.len
        go_wp2_with fail
        refine (rtwice_any _ xs _ HV.out).mono ?_
        rintro e w' ⟨⟨t2, rfl, ht2⟩, dr, rfl⟩
        obtain rfl := HT.out.uniq ht2
        clear ht2
        have hq : (((mk xs).length : Int) == (xs.length : Int)) = (t == -1) := by
          have := HLE.out
          rw [Bool.eq_iff_iff, decide_eq_true_eq, decide_eq_true_eq] at this
          rw [Bool.eq_iff_iff, beq_iff_eq, beq_iff_eq, ← this]
          omega
        go_wp2
        go_ret
        exact ⟨ret_b (by simp), HB.out.trans ((drew_below wz dr).mono HB.out.size)⟩
  · go_enter Try.func8, Try.ntmps8
    go_wp2_with fail
    refine (lives4 _).mono ?_
    rintro e w1 ⟨rfl, hb⟩
    have HB1 := Lib.hid hb
    clear hb
    go_wp2
    go_ret
    exact ⟨rfl, HB1.out⟩

set_option maxHeartbeats 2000000 in
theorem setsTwo_walk (v : Value) (xs : List Int) (u : Value) (ys : List Int) {w : World} (h : IsL w w.heap.size v xs) (hy : IsL w w.heap.size u ys) : Calls Try.prog 9 #[v, u] w fun e w' => e = .returned (.bool true) ∧ Below w.heap.size w w' := by
  have HV := Lib.hid h
  have HU := Lib.hid hy
  obtain ⟨A, cap, rfl⟩ := h.len_eq
  obtain ⟨A2, cap2, rfl⟩ := hy.len_eq
  have HB := Lib.hid (Below.refl w.heap.size w)
  clear h hy
  by_cases h200 : xs.length ≤ 200 ∧ ys.length ≤ 200
  · obtain ⟨h1, h2⟩ := h200
    have HML := Lib.hid (show (mk xs).length ≤ 200 ∧ (mk ys).length ≤ 200 from ⟨Nat.le_trans (mk_len_le xs) h1, Nat.le_trans (mk_len_le ys) h2⟩)
    obtain ⟨L, hL⟩ : ∃ L, L = (mk xs).filter (fun y => decide (y ∈ mk ys)) := ⟨_, rfl⟩
    have hap : ∀ (a b : Value) (W : World), IsL W W.heap.size a (mk xs) → IsL W W.heap.size b (mk ys) → Calls Try.prog 46 #[a, b] W fun e w' => e = .returned (.bool ((L.length : Int) == 0)) ∧ Below W.heap.size W w' := fun a b W h1 h2 => by
      have h := apart_any a b (mk xs) (mk ys) W h1 h2 (by have := HML.out; omega) (inc_mk _) (inc_mk _)
      rw [← hL] at h
      have e : ((L.length : Int) == 0) = decide (L = []) := by
        rw [Bool.eq_iff_iff, beq_iff_eq, decide_eq_true_eq, ← List.length_eq_zero_iff]
        omega
      rwa [← e] at h
    have hrb : ∀ (a b : Value) (W : World), IsL W W.heap.size a (mk xs) → IsL W W.heap.size b (mk ys) → Calls Try.prog 43 #[a, b] W fun e w' => ∃ v, e = .returned v ∧ IsL w' w'.heap.size v L ∧ Below W.heap.size W w' := fun a b W h1 h2 => by
      have h := rboth_any a b (mk xs) (mk ys) W h1 h2 (by have := HML.out; omega)
      rwa [← hL] at h
    have HAP := Lib.hid hap
    have HRB := Lib.hid hrb
    clear hap hrb hL
    go_enter Try.func9, Try.ntmps9
    go_wp2_with fail
    refine (rfrom_any _ xs _ HV.out (by omega)).mono ?_
    rintro e w1 ⟨a, rfl, hnew, hb⟩
    replace HV := Lib.hid (HV.out.at hb)
    replace HU := Lib.hid (HU.out.at hb)
    replace HB := Lib.hid (HB.out.trans (hb.mono HB.out.size))
    clear hb
    have HS1 := Lib.hid hnew
    clear hnew
    go_wp2_with fail
    refine (rfrom_any _ ys _ HU.out (by omega)).mono ?_
    rintro e w2 ⟨b, rfl, hnew, hb⟩
    replace HV := Lib.hid (HV.out.at hb)
    replace HU := Lib.hid (HU.out.at hb)
    replace HS1 := Lib.hid (HS1.out.at hb)
    replace HB := Lib.hid (HB.out.trans (hb.mono HB.out.size))
    clear hb
    have HS2 := Lib.hid hnew
    clear hnew
    go_wp2_with fail
    refine (lives4 _).mono ?_
    rintro e w3 ⟨rfl, hb⟩
    replace HV := Lib.hid (HV.out.at hb)
    replace HU := Lib.hid (HU.out.at hb)
    replace HS1 := Lib.hid (HS1.out.at hb)
    replace HS2 := Lib.hid (HS2.out.at hb)
    replace HB := Lib.hid (HB.out.trans (hb.mono HB.out.size))
    clear hb
    go_wp2_with fail
    refine (either_any _ _ (mk xs) (mk ys) _ HS1.out HS2.out (by have := HML.out; omega) (inc_mk _) (inc_mk _)).mono ?_
    rintro e w4 ⟨c, rfl, hnew, hb⟩
    replace HV := Lib.hid (HV.out.at hb)
    replace HU := Lib.hid (HU.out.at hb)
    replace HS1 := Lib.hid (HS1.out.at hb)
    replace HS2 := Lib.hid (HS2.out.at hb)
    replace HB := Lib.hid (HB.out.trans (hb.mono HB.out.size))
    clear hb
    have HC := Lib.hid hnew
    clear hnew
    go_wp2_with fail
    refine (reither_any _ _ (mk xs) (mk ys) _ HS1.out HS2.out (by have := HML.out; omega) (inc_mk _)).mono ?_
    rintro e w5 ⟨d, rfl, hnew, hb⟩
    replace HV := Lib.hid (HV.out.at hb)
    replace HU := Lib.hid (HU.out.at hb)
    replace HS1 := Lib.hid (HS1.out.at hb)
    replace HS2 := Lib.hid (HS2.out.at hb)
    replace HC := Lib.hid (HC.out.at hb)
    replace HB := Lib.hid (HB.out.trans (hb.mono HB.out.size))
    clear hb
    have HD := Lib.hid hnew
    clear hnew
    go_wp2_with fail
    refine (same_true _ _ _ _ HC.out HD.out).mono ?_
    rintro e w' ⟨rfl, d5, rfl⟩
    have hb := drew_below w5 d5
    replace HV := Lib.hid (HV.out.at hb)
    replace HU := Lib.hid (HU.out.at hb)
    replace HS1 := Lib.hid (HS1.out.at hb)
    replace HS2 := Lib.hid (HS2.out.at hb)
    replace HC := Lib.hid (HC.out.at hb)
    replace HD := Lib.hid (HD.out.at hb)
    replace HB := Lib.hid (HB.out.trans (hb.mono HB.out.size))
    clear hb
    go_wp2_with fail
    refine (both_any _ _ (mk xs) (mk ys) _ HS1.out HS2.out (by have := HML.out; omega) (inc_mk _) (inc_mk _)).mono ?_
    rintro e w7 ⟨c2, rfl, hnew, hb⟩
    replace HV := Lib.hid (HV.out.at hb)
    replace HU := Lib.hid (HU.out.at hb)
    replace HS1 := Lib.hid (HS1.out.at hb)
    replace HS2 := Lib.hid (HS2.out.at hb)
    replace HC := Lib.hid (HC.out.at hb)
    replace HD := Lib.hid (HD.out.at hb)
    replace HB := Lib.hid (HB.out.trans (hb.mono HB.out.size))
    clear hb
    have HC2 := Lib.hid hnew
    clear hnew
    go_wp2_with fail
    refine (rboth_any _ _ (mk xs) (mk ys) _ HS1.out HS2.out (by have := HML.out; omega)).mono ?_
    rintro e w8 ⟨d2, rfl, hnew, hb⟩
    replace HV := Lib.hid (HV.out.at hb)
    replace HU := Lib.hid (HU.out.at hb)
    replace HS1 := Lib.hid (HS1.out.at hb)
    replace HS2 := Lib.hid (HS2.out.at hb)
    replace HC := Lib.hid (HC.out.at hb)
    replace HD := Lib.hid (HD.out.at hb)
    replace HC2 := Lib.hid (HC2.out.at hb)
    replace HB := Lib.hid (HB.out.trans (hb.mono HB.out.size))
    clear hb
    have HD2 := Lib.hid hnew
    clear hnew
    go_wp2_with fail
    refine (same_true _ _ _ _ HC2.out HD2.out).mono ?_
    rintro e w' ⟨rfl, d8, rfl⟩
    have hb := drew_below w8 d8
    replace HV := Lib.hid (HV.out.at hb)
    replace HU := Lib.hid (HU.out.at hb)
    replace HS1 := Lib.hid (HS1.out.at hb)
    replace HS2 := Lib.hid (HS2.out.at hb)
    replace HC := Lib.hid (HC.out.at hb)
    replace HD := Lib.hid (HD.out.at hb)
    replace HC2 := Lib.hid (HC2.out.at hb)
    replace HD2 := Lib.hid (HD2.out.at hb)
    replace HB := Lib.hid (HB.out.trans (hb.mono HB.out.size))
    clear hb
    go_wp2_with fail
    refine (less_any _ _ (mk xs) (mk ys) _ HS1.out HS2.out (by have := HML.out; omega) (inc_mk _) (inc_mk _)).mono ?_
    rintro e w10 ⟨c3, rfl, hnew, hb⟩
    replace HV := Lib.hid (HV.out.at hb)
    replace HU := Lib.hid (HU.out.at hb)
    replace HS1 := Lib.hid (HS1.out.at hb)
    replace HS2 := Lib.hid (HS2.out.at hb)
    replace HC := Lib.hid (HC.out.at hb)
    replace HD := Lib.hid (HD.out.at hb)
    replace HC2 := Lib.hid (HC2.out.at hb)
    replace HD2 := Lib.hid (HD2.out.at hb)
    replace HB := Lib.hid (HB.out.trans (hb.mono HB.out.size))
    clear hb
    have HC3 := Lib.hid hnew
    clear hnew
    go_wp2_with fail
    refine (rless_any _ _ (mk xs) (mk ys) _ HS1.out HS2.out (by have := HML.out; omega)).mono ?_
    rintro e w11 ⟨d3, rfl, hnew, hb⟩
    replace HV := Lib.hid (HV.out.at hb)
    replace HU := Lib.hid (HU.out.at hb)
    replace HS1 := Lib.hid (HS1.out.at hb)
    replace HS2 := Lib.hid (HS2.out.at hb)
    replace HC := Lib.hid (HC.out.at hb)
    replace HD := Lib.hid (HD.out.at hb)
    replace HC2 := Lib.hid (HC2.out.at hb)
    replace HD2 := Lib.hid (HD2.out.at hb)
    replace HC3 := Lib.hid (HC3.out.at hb)
    replace HB := Lib.hid (HB.out.trans (hb.mono HB.out.size))
    clear hb
    have HD3 := Lib.hid hnew
    clear hnew
    go_wp2_with fail
    refine (same_true _ _ _ _ HC3.out HD3.out).mono ?_
    rintro e w' ⟨rfl, d11, rfl⟩
    have hb := drew_below w11 d11
    replace HV := Lib.hid (HV.out.at hb)
    replace HU := Lib.hid (HU.out.at hb)
    replace HS1 := Lib.hid (HS1.out.at hb)
    replace HS2 := Lib.hid (HS2.out.at hb)
    replace HC := Lib.hid (HC.out.at hb)
    replace HD := Lib.hid (HD.out.at hb)
    replace HC2 := Lib.hid (HC2.out.at hb)
    replace HD2 := Lib.hid (HD2.out.at hb)
    replace HC3 := Lib.hid (HC3.out.at hb)
    replace HD3 := Lib.hid (HD3.out.at hb)
    replace HB := Lib.hid (HB.out.trans (hb.mono HB.out.size))
    clear hb
    go_wp2_with fail
    refine (HAP.out _ _ _ HS1.out HS2.out).mono ?_
    rintro e w13 ⟨rfl, hb⟩
    replace HV := Lib.hid (HV.out.at hb)
    replace HU := Lib.hid (HU.out.at hb)
    replace HS1 := Lib.hid (HS1.out.at hb)
    replace HS2 := Lib.hid (HS2.out.at hb)
    replace HC := Lib.hid (HC.out.at hb)
    replace HD := Lib.hid (HD.out.at hb)
    replace HC2 := Lib.hid (HC2.out.at hb)
    replace HD2 := Lib.hid (HD2.out.at hb)
    replace HC3 := Lib.hid (HC3.out.at hb)
    replace HD3 := Lib.hid (HD3.out.at hb)
    replace HB := Lib.hid (HB.out.trans (hb.mono HB.out.size))
    clear hb
    go_wp2_with fail
    refine (HRB.out _ _ _ HS1.out HS2.out).mono ?_
    rintro e w14 ⟨d4, rfl, hnew, hb⟩
    replace HV := Lib.hid (HV.out.at hb)
    replace HU := Lib.hid (HU.out.at hb)
    replace HS1 := Lib.hid (HS1.out.at hb)
    replace HS2 := Lib.hid (HS2.out.at hb)
    replace HC := Lib.hid (HC.out.at hb)
    replace HD := Lib.hid (HD.out.at hb)
    replace HC2 := Lib.hid (HC2.out.at hb)
    replace HD2 := Lib.hid (HD2.out.at hb)
    replace HC3 := Lib.hid (HC3.out.at hb)
    replace HD3 := Lib.hid (HD3.out.at hb)
    replace HB := Lib.hid (HB.out.trans (hb.mono HB.out.size))
    clear hb
    have HD4 := Lib.hid hnew
    clear hnew
    obtain ⟨A4, cap4, rfl⟩ := HD4.out.len_eq
    go_wp2
    go_ret
    exact ⟨ret_b (by simp), HB.out⟩
  · have HN := Lib.hid h200
    clear h200
    go_enter Try.func9, Try.ntmps9
    go_wp2_with fail
    all_goals first
      | (exfalso; have := HN.out; omega)
      | (refine (lives4 _).mono ?_
         rintro e w1 ⟨rfl, hb⟩
         have HB1 := Lib.hid hb
         clear hb
         go_wp2
         go_ret
         exact ⟨rfl, HB1.out⟩)
end Go.Proofs.Ytjpojidpmmodnaa
