/- The lane of a place; a lane's width; is a lane touched: what the program and the reference answer. -/
import Derived.Test.YtegghoniboebkaaFG
namespace Go.Proofs.Ytegghoniboebkaa
open Go.RowKit

def laneV (l : List Nat) (x : Nat) : Int := if chkE l = 0 then (if nanb x = true then 0 else if outB l x x = true then 0 else (loV l x 0 : Int)) else 0
def laneE (l : List Nat) (x : Nat) : Int := if chkE l = 0 then (if nanb x = true then 20 else if outB l x x = true then 71 else 0) else chkE l
theorem ret_t {a b c d : Int} (h : a = c) (k : b = d) : Ending.returned (.tuple #[.int .i64 a, .int .i64 b]) = .returned (.tuple #[.int .i64 c, .int .i64 d]) := by rw [h, k]
/-- Right borders as cells. -/
theorem rise_cells {w : World} {B : Nat} {v : Value} {xs : List Nat} (h : KF.IsL w B v xs) (hz : chkE xs = 0) : Rise xs ∧ ∃ b off cap n, v = .slice (some ⟨b, off, none⟩) xs.length cap ∧ xs.length = n + 2 ∧ n ≤ 23 ∧ b < B ∧
    (∀ i, i < xs.length → w.cell? ⟨b, off + i, none⟩ = some (.float .f64 (xs.getD i 0))) ∧ (∀ i, i < xs.length → xs.getD i 0 < 18446744073709551616) := by
  have hr := rise_of xs hz
  have h2 := hr.two
  have h3 := hr.most
  obtain ⟨b, off, cap, rfl, hc, hb, hl, hcell, hlt⟩ := KF.cells h (by omega)
  exact ⟨hr, b, off, cap, xs.length - 2, rfl, by omega, by omega, hb, hcell, hlt⟩
theorem nanb_of {x : Nat} (h : nanb x = false) : ¬ nan x := by unfold nanb at h; simpa using h

set_option maxHeartbeats 2000000 in
theorem lane_any (v : Value) (xs : List Nat) (x : Nat) (w : World) (h : KF.IsL w w.heap.size v xs) : Calls Try.prog 16 #[v, .float .f64 x] w fun e w' => e = .returned (.tuple #[.int .i64 (laneV xs x), .int .i64 (laneE xs x)]) ∧ Below w.heap.size w w' := by
  have HK := Lib.hid (check_any v xs w h)
  by_cases hz : chkE xs = 0
  · obtain ⟨hr, b, off, cap, n, rfl, hn, hm, hb, hcell, hlt⟩ := rise_cells h hz
    rw [hz] at HK
    rcases Bool.eq_false_or_eq_true (nanb x) with hx | hx
    · have T1 : laneV xs x = 0 := by unfold laneV; rw [if_pos hz, if_pos hx]
      have T2 : laneE xs x = 20 := by unfold laneE; rw [if_pos hz, if_pos hx]
      rw [T1, T2]
      clear T1 T2 hr hcell hlt hz h hn
      go_enter Try.func16, Try.ntmps16
      go_wp2_with fail
      refine HK.out.mono ?_
      rintro e w' ⟨rfl, rfl⟩
      go_wp2_with fail
      refine (isNone_any _ _).mono ?_
      rintro e w' ⟨rfl, rfl⟩
      go_wp2
      go_ret2
      exact ⟨rfl, Below.refl _ _⟩
    · have T1 : laneV xs x = tLo xs x x := by
        unfold laneV tLo
        rw [if_pos hz, hx, if_neg (by simp)]
        split <;> rfl
      have T2 : laneE xs x = tEr xs x x := by
        unfold laneE tEr
        rw [if_pos hz, hx, if_neg (by simp)]
      have HT := Lib.hid (touched_any b off cap n xs hn hm w hb hcell x x)
      rw [T1, T2]
      clear T1 T2 hr hcell hlt hz h hn
      generalize (tLo xs x x : Int) = A at *
      generalize (tHi xs x x : Int) = B at *
      generalize tEr xs x x = C at *
      go_enter Try.func16, Try.ntmps16
      go_wp2_with fail
      refine HK.out.mono ?_
      rintro e w' ⟨rfl, rfl⟩
      go_wp2_with fail
      refine (isNone_any _ _).mono ?_
      rintro e w' ⟨rfl, rfl⟩
      go_wp2_with fail
      refine HT.out.mono ?_
      rintro e w1 ⟨rfl, hb1⟩
      have HB1 := Lib.hid hb1
      clear hb1
      go_wp2
      go_ret2
      exact ⟨rfl, Below.al HB1.out _⟩
  · have T1 : laneV xs x = 0 := by unfold laneV; rw [if_neg hz]
    have T2 : laneE xs x = chkE xs := by unfold laneE; rw [if_neg hz]
    rw [T1, T2]
    have hz' : (chkE xs != 0) = true := by rw [bne_iff_ne]; exact hz
    clear T1 T2 h hz
    generalize chkE xs = c at *
    go_enter Try.func16, Try.ntmps16
    go_wp2_with fail
    refine HK.out.mono ?_
    rintro e w' ⟨rfl, rfl⟩
    go_wp2
    go_ret2
    exact ⟨rfl, Below.refl _ _⟩
set_option maxHeartbeats 2000000 in
theorem rlane_any (v : Value) (xs : List Nat) (x : Nat) (w : World) (h : KF.IsL w w.heap.size v xs) : Calls Try.prog 17 #[v, .float .f64 x] w fun e w' => e = .returned (.tuple #[.int .i64 (laneV xs x), .int .i64 (laneE xs x)]) ∧ ∃ d, w' = w.drewN d := by
  have HK := Lib.hid (rcheck_any v xs w h)
  by_cases hz : chkE xs = 0
  · obtain ⟨hr, b, off, cap, n, rfl, hn, hm, hb, hcell, hlt⟩ := rise_cells h hz
    rw [hz] at HK
    rcases Bool.eq_false_or_eq_true (nanb x) with hx | hx
    · have T1 : laneV xs x = 0 := by unfold laneV; rw [if_pos hz, if_pos hx]
      have T2 : laneE xs x = 20 := by unfold laneE; rw [if_pos hz, if_pos hx]
      rw [T1, T2]
      clear T1 T2 hr hcell hlt hz h hn
      go_enter Try.func17, Try.ntmps17
      go_wp2_with fail
      refine HK.out.mono ?_
      rintro e w' ⟨rfl, d, rfl⟩
      go_wp2_with fail
      refine (rnone_any _ _).mono ?_
      rintro e w' ⟨rfl, rfl⟩
      go_wp2
      go_ret2
      exact ⟨rfl, _, rfl⟩
    · have HA := Lib.hid (fun ho => at_lo xs hr x (nanb_of hx) ho)
      have HO := Lib.hid (show outB xs x x = (gtb x (xs.getD (n + 1) 0) || ltb x (xs.getD 0 0)) by unfold outB; rw [hn]; rfl)
      have HT1 := Lib.hid (show laneV xs x = if outB xs x x = true then 0 else (loV xs x 0 : Int) by unfold laneV; rw [if_pos hz, hx, if_neg (by simp)])
      have HT2 := Lib.hid (show laneE xs x = if outB xs x x = true then 71 else 0 by unfold laneE; rw [if_pos hz, hx, if_neg (by simp)])
      have HC := Lib.hid hcell
      have c0 := hcell 0 (by omega)
      have c1 := hcell (n + 1) (by omega)
      rw [Nat.add_zero] at c0
      have HS := Lib.hid (show ∀ k, atV xs x (k + 1) = if leb (xs.getD k 0) x = true then k else atV xs x k from fun _ => rfl)
      have olt : ∀ a b, (FloatKind.f64.format.order a b == some .lt) = ltb a b := fun _ _ => rfl
      have ogt : ∀ a b, (FloatKind.f64.format.order a b == some .gt) = gtb a b := fun _ _ => rfl
      have ole : ∀ a b, (ltb a b || FloatKind.f64.format.order a b == some .eq) = leb a b := fun _ _ => rfl
      rw [hn] at HK
      rw [hn] at *
      clear hn hcell hlt hz h hr
      rcases Bool.eq_false_or_eq_true (ltb x (xs.getD 0 0)) with g1 | g1
      · have ho := HO.out
        rw [g1, Bool.or_true] at ho
        rw [HT1.out, HT2.out, if_pos ho, if_pos ho]
        clear ho HT1 HT2 HO
        generalize xs.getD (n + 1) 0 = f1 at *
        generalize xs.getD 0 0 = f0 at *
        go_enter Try.func17, Try.ntmps17
        go_wp2_with fail
        refine HK.out.mono ?_
        rintro e w' ⟨rfl, d, rfl⟩
        go_wp2_with fail
        refine (rnone_any _ _).mono ?_
        rintro e w' ⟨rfl, rfl⟩
        go_wp2
        go_ret2
        exact ⟨rfl, _, rfl⟩
      · rcases Bool.eq_false_or_eq_true (gtb x (xs.getD (n + 1) 0)) with g2 | g2
        · have ho := HO.out
          rw [g2, Bool.true_or] at ho
          rw [HT1.out, HT2.out, if_pos ho, if_pos ho]
          clear ho HT1 HT2 HO
          generalize xs.getD (n + 1) 0 = f1 at *
          generalize xs.getD 0 0 = f0 at *
          go_enter Try.func17, Try.ntmps17
          go_wp2_with fail
          refine HK.out.mono ?_
          rintro e w' ⟨rfl, d, rfl⟩
          go_wp2_with fail
          refine (rnone_any _ _).mono ?_
          rintro e w' ⟨rfl, rfl⟩
          go_wp2
          go_ret2
          exact ⟨rfl, _, rfl⟩
        · have ho := HO.out
          rw [g1, g2, Bool.or_false] at ho
          rw [HT1.out, HT2.out, if_neg (by rw [ho]; simp), if_neg (by rw [ho]; simp), ← HA.out ho]
          clear ho HT1 HT2 HO
          generalize xs.getD (n + 1) 0 = f1 at c1 g2
          generalize xs.getD 0 0 = f0 at c0 g1
          go_enter Try.func17, Try.ntmps17
          go_wp2_with fail
          refine HK.out.mono ?_
          rintro e w' ⟨rfl, d, rfl⟩
          go_wp2_with fail
          refine (rnone_any _ _).mono ?_
          rintro e w' ⟨rfl, rfl⟩
          go_wp2
          clear c0 c1 g1 g2
          go_loop [7, 8] (fun a i => ∃ k : Nat, k ≤ n + 1 ∧ a = .int .i64 (atV xs x k) ∧ i = .int .i64 k) (fun _ i => n + 1 - (intOf i).toNat)
          case atStart => exact ⟨0, by omega, rfl, rfl⟩
          case round =>
            obtain ⟨k, hk, rfl, rfl⟩ := hrel
            by_cases hlt : k < n + 1
            · have hcl := HC.out k (by omega)
              have HS' := Lib.hid (HS.out k)
              generalize xs.getD k 0 = f at *
              generalize atV xs x k = A at *
              rcases Bool.eq_false_or_eq_true (leb f x) with g | g
              · go_wp2
                go_round
                case rel => exact ⟨k + 1, by omega, by rw [HS'.out, if_pos g], num_i (by omega)⟩
                case measure => simp [intOf]; omega
              · go_wp2
                go_round
                case rel => exact ⟨k + 1, by omega, by rw [HS'.out, if_neg (by rw [g]; simp)], num_i (by omega)⟩
                case measure => simp [intOf]; omega
            · obtain rfl : k = n + 1 := by omega
              go_wp2
              go_ret2
              exact ⟨rfl, _, rfl⟩
  · have T1 : laneV xs x = 0 := by unfold laneV; rw [if_neg hz]
    have T2 : laneE xs x = chkE xs := by unfold laneE; rw [if_neg hz]
    rw [T1, T2]
    have hz' : (chkE xs != 0) = true := by rw [bne_iff_ne]; exact hz
    clear T1 T2 h hz
    generalize chkE xs = c at *
    go_enter Try.func17, Try.ntmps17
    go_wp2_with fail
    refine HK.out.mono ?_
    rintro e w' ⟨rfl, d, rfl⟩
    go_wp2
    go_ret2
    exact ⟨rfl, _, rfl⟩
end Go.Proofs.Ytegghoniboebkaa
