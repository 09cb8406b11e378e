/- A lane's width; is a lane touched: what the program and the reference answer. -/
import Derived.Test.YtegghoniboebkaaFH
namespace Go.Proofs.Ytegghoniboebkaa
open Go.RowKit

def widV (l : List Nat) (k : Int) : Nat := if chkE l = 0 ∧ 0 ≤ k ∧ k + 1 < l.length then (Ieee.double.sub (l.getD (k.toNat + 1) 0) (l.getD k.toNat 0)).getD 0 else 0
theorem wid_some (l : List Nat) (h : Rise l) (j : Nat) (hj : j + 1 < l.length) (h64 : l.getD j 0 < 18446744073709551616) : ∃ p, Ieee.double.sub (l.getD (j + 1) 0) (l.getD j 0) = some p := by
  have hn : ¬ clashS (l.getD (j + 1) 0) (l.getD j 0) := by
    rintro ⟨h1, h2, h3⟩
    have := h.lt j (j + 1) (by omega) hj
    unfold vf at this
    rw [h1, h2, h3] at this
    omega
  obtain ⟨p, hp, _⟩ := sub_some _ _ h64 (h.num _ hj) (h.num _ (by omega)) hn
  exact ⟨p, hp⟩
set_option maxHeartbeats 2000000 in
theorem width_any (v : Value) (xs : List Nat) (k : Int) (w : World) (h : KF.IsL w w.heap.size v xs) : Calls Try.prog 14 #[v, .int .i64 k] w fun e w' => e = .returned (.float .f64 (widV xs k)) ∧ ∃ d, w' = w.drewN d := by
  have HK := Lib.hid (check_any v xs w h)
  by_cases hz : chkE xs = 0
  · obtain ⟨hr, b, off, cap, n, rfl, hn, hm, hb, hcell, hlt⟩ := rise_cells h hz
    rw [hz] at HK
    by_cases hk : 0 ≤ k ∧ k + 1 < xs.length
    · obtain ⟨j, rfl⟩ : ∃ j : Nat, k = (j : Int) := ⟨k.toNat, by omega⟩
      have hj : j + 1 < xs.length := by omega
      obtain ⟨p, hp⟩ := wid_some xs hr j hj (hlt j (by omega))
      have T : widV xs (j : Int) = p := by
        unfold widV
        rw [if_pos ⟨hz, hk⟩, Int.toNat_natCast, hp]
        rfl
      rw [T]
      have hq := fun w => run_float_arith (P := Try.prog) w .sub 28 .f64 _ _ _ hp
      have c0 := hcell j (by omega)
      have c1 := hcell (j + 1) (by omega)
      clear hcell hlt hr T hz h hp hk
      generalize xs.getD (j + 1) 0 = f1 at *
      generalize xs.getD j 0 = f0 at *
      rw [hn] at HK
      rw [hn] at *
      clear hn
      go_enter Try.func14, Try.ntmps14
      go_wp2_with fail
      refine HK.out.mono ?_
      rintro e w' ⟨rfl, rfl⟩
      go_wp2_with fail
      go_quiet (fail)
      go_wp2
      go_ret
      exact ⟨rfl, _, rfl⟩
    · have T : widV xs k = 0 := by unfold widV; rw [if_neg (fun h => hk h.2)]
      rw [T]
      clear hcell hlt hr T hz h
      rw [hn] at HK
      rw [hn] at *
      clear hn
      by_cases h0 : k < 0
      · go_enter Try.func14, Try.ntmps14
        go_wp2_with fail
        refine HK.out.mono ?_
        rintro e w' ⟨rfl, rfl⟩
        go_wp2_with fail
        go_ret
        exact ⟨rfl, 0, rfl⟩
      · have h1 : (n : Int) + 1 ≤ k := by omega
        clear hk
        go_enter Try.func14, Try.ntmps14
        go_wp2_with fail
        refine HK.out.mono ?_
        rintro e w' ⟨rfl, rfl⟩
        go_wp2_with fail
        go_ret
        exact ⟨rfl, 0, rfl⟩
  · have T : widV xs k = 0 := by unfold widV; rw [if_neg (fun h => hz h.1)]
    rw [T]
    have hz' : (chkE xs != 0) = true := by rw [bne_iff_ne]; exact hz
    obtain ⟨⟨A, cap, rfl, hc, hA⟩, hf, hl⟩ := h
    clear T hz hA hf
    generalize chkE xs = c at *
    go_enter Try.func14, Try.ntmps14
    go_wp2_with fail
    refine HK.out.mono ?_
    rintro e w' ⟨rfl, rfl⟩
    go_wp2
    go_ret
    exact ⟨rfl, 0, rfl⟩
set_option maxHeartbeats 2000000 in
theorem rwidth_any (v : Value) (xs : List Nat) (k : Int) (w : World) (h : KF.IsL w w.heap.size v xs) : Calls Try.prog 15 #[v, .int .i64 k] w fun e w' => e = .returned (.float .f64 (widV xs k)) ∧ ∃ d, w' = w.drewN d := by
  have HK := Lib.hid (rcheck_any v xs w h)
  by_cases hz : chkE xs = 0
  · obtain ⟨hr, b, off, cap, n, rfl, hn, hm, hb, hcell, hlt⟩ := rise_cells h hz
    rw [hz] at HK
    by_cases hk : 0 ≤ k ∧ k + 1 < xs.length
    · obtain ⟨j, rfl⟩ : ∃ j : Nat, k = (j : Int) := ⟨k.toNat, by omega⟩
      have hj : j + 1 < xs.length := by omega
      obtain ⟨p, hp⟩ := wid_some xs hr j hj (hlt j (by omega))
      have T : widV xs (j : Int) = p := by
        unfold widV
        rw [if_pos ⟨hz, hk⟩, Int.toNat_natCast, hp]
        rfl
      rw [T]
      have hq := fun w => run_float_arith (P := Try.prog) w .sub 28 .f64 _ _ _ hp
      have c0 := hcell j (by omega)
      have c1 := hcell (j + 1) (by omega)
      clear hcell hlt hr T hz h hp hk
      generalize xs.getD (j + 1) 0 = f1 at *
      generalize xs.getD j 0 = f0 at *
      rw [hn] at HK
      rw [hn] at *
      clear hn
      go_enter Try.func15, Try.ntmps15
      go_wp2_with fail
      refine HK.out.mono ?_
      rintro e w1 ⟨rfl, d, hd⟩
      have HD := Lib.hid hd
      have c0' : w1.cell? ⟨b, off + j, none⟩ = some (.float .f64 f0) := by rw [hd]; exact c0
      have c1' : w1.cell? ⟨b, off + (j + 1), none⟩ = some (.float .f64 f1) := by rw [hd]; exact c1
      clear hd c0 c1
      go_wp2_with fail
      go_quiet (fail)
      go_wp2
      go_ret
      exact ⟨rfl, by rw [HD.out]; exact drewN_two _ _ _⟩
    · have T : widV xs k = 0 := by unfold widV; rw [if_neg (fun h => hk h.2)]
      rw [T]
      clear hcell hlt hr T hz h
      rw [hn] at HK
      rw [hn] at *
      clear hn
      by_cases h0 : k < 0
      · go_enter Try.func15, Try.ntmps15
        go_wp2_with fail
        refine HK.out.mono ?_
        rintro e w' ⟨rfl, d, rfl⟩
        go_wp2_with fail
        go_ret
        exact ⟨rfl, _, rfl⟩
      · have h1 : (n : Int) + 1 ≤ k := by omega
        clear hk
        go_enter Try.func15, Try.ntmps15
        go_wp2_with fail
        refine HK.out.mono ?_
        rintro e w' ⟨rfl, d, rfl⟩
        go_wp2_with fail
        go_ret
        exact ⟨rfl, _, rfl⟩
  · have T : widV xs k = 0 := by unfold widV; rw [if_neg (fun h => hz h.1)]
    rw [T]
    have hz' : (chkE xs != 0) = true := by rw [bne_iff_ne]; exact hz
    obtain ⟨⟨A, cap, rfl, hc, hA⟩, hf, hl⟩ := h
    clear T hz hA hf
    generalize chkE xs = c at *
    go_enter Try.func15, Try.ntmps15
    go_wp2_with fail
    refine HK.out.mono ?_
    rintro e w' ⟨rfl, d, rfl⟩
    go_wp2
    go_ret
    exact ⟨rfl, _, rfl⟩
set_option maxHeartbeats 2000000 in
theorem touches_any (b off cap n : Nat) (xs : List Nat) (hn : xs.length = n + 2) (hm : n ≤ 23) (w : World) (hcell : ∀ i, i < xs.length → w.cell? ⟨b, off + i, none⟩ = some (.float .f64 (xs.getD i 0))) (k : Nat) (hk : k ≤ n) (p q : Nat) :
    Calls Try.prog 20 #[.slice (some ⟨b, off, none⟩) xs.length cap, .int .i64 k, .float .f64 p, .float .f64 q] w fun e w' => e = .returned (.bool (tchB xs p q k)) ∧ w = w' := by
  have olt : ∀ a b, (FloatKind.f64.format.order a b == some .lt) = ltb a b := fun _ _ => rfl
  have ogt : ∀ a b, (FloatKind.f64.format.order a b == some .gt) = gtb a b := fun _ _ => rfl
  have oge : ∀ a b, (gtb a b || FloatKind.f64.format.order a b == some .eq) = geb a b := fun _ _ => rfl
  have ole : ∀ a b, (ltb a b || FloatKind.f64.format.order a b == some .eq) = leb a b := fun _ _ => rfl
  have c0 := hcell k (by omega)
  have c1 := hcell (k + 1) (by omega)
  have HT := Lib.hid (show tchB xs p q k = ((if k + 2 = xs.length then leb p (xs.getD (k + 1) 0) else ltb p (xs.getD (k + 1) 0)) && geb q (xs.getD k 0)) from rfl)
  clear hcell
  by_cases he : k = n
  · subst he
    rw [HT.out, if_pos hn.symm]
    clear HT
    rw [hn]
    clear hn
    generalize xs.getD (k + 1) 0 = f1 at *
    generalize xs.getD k 0 = f0 at *
    rcases Bool.eq_false_or_eq_true (leb p f1) with g | g
    all_goals
      rw [g]
      go_enter Try.func20, Try.ntmps20
      go_wp2
      go_ret
      exact ⟨ret_b (by simp), rfl⟩
  · rw [HT.out, if_neg (by omega)]
    clear HT
    rw [hn]
    clear hn
    generalize xs.getD (k + 1) 0 = f1 at *
    generalize xs.getD k 0 = f0 at *
    rcases Bool.eq_false_or_eq_true (ltb p f1) with g | g
    all_goals
      rw [g]
      go_enter Try.func20, Try.ntmps20
      go_wp2
      go_ret
      exact ⟨ret_b (by simp), rfl⟩
end Go.Proofs.Ytegghoniboebkaa
