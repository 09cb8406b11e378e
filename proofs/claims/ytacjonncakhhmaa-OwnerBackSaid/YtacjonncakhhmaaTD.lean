/- The reference's set of a list lies in memory of its own. -/
import Derived.Test.YtacjonncakhhmaaTC
namespace Go.Proofs.Ytacjonncakhhmaa.Two
open Go.RowKit
set_option maxHeartbeats 4000000 in
theorem put_full' (b off cap : Nat) (s : List Int) (n : Int) (hn : fits n) (w : World) (h0 : 0 < s.length) (hl : s.length ≤ 1000) (hcap : s.length ≤ cap) (hb : b < w.heap.size) (hf : ∀ x ∈ s, fits x)
    (hc : ∀ i, i < s.length → w.cell? ⟨b, off + i, none⟩ = some (.int .i64 (s.getD i 0))) :
    Calls Try.prog 78 #[.slice (some ⟨b, off, none⟩) s.length cap, .int .i64 n] w fun e w' => ∃ v, e = .returned v ∧ IsL w' w'.heap.size v (put s n) ∧ (v = .slice (some ⟨b, off, none⟩) s.length cap ∨ ∀ k, v.ownBlock = some k → w.heap.size ≤ k) ∧ Below w.heap.size w w' := by
  have HN := Lib.hid hn
  have HF := Lib.hid hf
  have HC := Lib.hid hc
  have HB := Lib.hid hb
  clear hn hf hc hb
  go_enter Try.func78, Try.ntmps78
  go_wp2
  go_loop [5] (fun i => ∃ k : Nat, k ≤ s.length ∧ (∀ j, j < k → s.getD j 0 < n) ∧ i = .int .i64 (k : Int)) (fun i => s.length - (intOf i).toNat)
  case atStart => exact ⟨0, Nat.zero_le _, fun j hj => absurd hj (by omega), rfl⟩
  case round =>
    obtain ⟨k, hk, hlow, rfl⟩ := hrel
    have HL := Lib.hid hlow
    have i1 : (0 : Int) ≤ (k : Int) := by omega
    have i2 : (k : Int) ≤ (s.length : Int) := by omega
    have i3 : (k : Int) ≤ (cap : Int) := by omega
    have HT := Lib.hid (IsL.takeLit (cap := cap) HB.out HC.out HF.out k hk (by omega) (by omega))
    have HD := Lib.hid (IsL.dropIf (cap := cap) HB.out HC.out HF.out k hk hcap (by omega))
    have hlens : (s.take k).length = k ∧ (s.drop k).length = s.length - k := ⟨by rw [List.length_take]; omega, List.length_drop⟩
    have HLN := Lib.hid hlens
    clear hlow hlens
    by_cases hlt : k < s.length
    · have hx := HC.out k hlt
      have hpt := put_there s n k hlt HL.out
      have hpa := fun (h : n < s.getD k 0) => put_at s n k hk HL.out (fun _ => h)
      have hlow2 : s.getD k 0 < n → ∀ j, j < k + 1 → s.getD j 0 < n := fun h j hj => by
        rcases Nat.lt_or_ge j k with h2 | h2
        · exact HL.out j h2
        · obtain rfl : j = k := by omega
          exact h
      have HPT := Lib.hid hpt
      have HPA := Lib.hid hpa
      have HLW := Lib.hid hlow2
      clear hpt hpa hlow2
      generalize s.getD k 0 = x at *
      by_cases hx1 : x < n
      · go_wp2
        go_round
        case rel => exact ⟨k + 1, by omega, HLW.out hx1, num_i (by omega)⟩
        case measure => simp [intOf]; omega
      · by_cases hx2 : x = n
        · have hbq : (x == n) = true := by rw [beq_iff_eq]; exact hx2
          have HX2 := Lib.hid hx2
          clear hx2
          go_wp2
          go_ret
          exact ⟨_, rfl, by rw [HPT.out HX2.out]; exact ⟨⟨_, cap, rfl, hcap, fun _ => ⟨b, off, rfl, HB.out, HC.out⟩⟩, HF.out, by omega⟩, .inl rfl, Below.refl _ _⟩
        · have hbq : (x == n) = false := by rw [beq_eq_false_iff_ne]; exact hx2
          have HPU := Lib.hid (HPA.out (by omega))
          clear hx2
          go_wp2
          have mA := Lib.hid (made_A w)
          have mB := Lib.hid (made_B w n)
          have mC := Lib.hid (made_C w n)
          go_region_held3 (fun _ => True) (trivial)
            (first
              | (refine step_app (by rfl) (.tmp 33) (.tmp 36) (by rfl) w.heap.size _ _ _ [] (s.take k) (by rfl) (by rfl) mA.out.own (HT.out.below mA.out.below) (by have := HLN.out; simp <;> omega) mA.out.size ?_; intro v1 W2 hown1 hg1; have hb1 := Own.grow' mA.out.own mA.out.below mA.out.size hg1; have hs1 := Nat.le_trans mA.out.size hg1.size)
              | (refine step_app (by rfl) (.tmp 33) (.tmp 36) (by rfl) w.heap.size _ _ _ [] (s.take k) (by rfl) (by rfl) mB.out.own (HT.out.below mB.out.below) (by have := HLN.out; simp <;> omega) mB.out.size ?_; intro v1 W2 hown1 hg1; have hb1 := Own.grow' mB.out.own mB.out.below mB.out.size hg1; have hs1 := Nat.le_trans mB.out.size hg1.size)
              | (refine step_app (by rfl) (.tmp 33) (.tmp 36) (by rfl) w.heap.size _ _ _ [] (s.take k) (by rfl) (by rfl) mC.out.own (HT.out.below mC.out.below) (by have := HLN.out; simp <;> omega) mC.out.size ?_; intro v1 W2 hown1 hg1; have hb1 := Own.grow' mC.out.own mC.out.below mC.out.size hg1; have hs1 := Nat.le_trans mC.out.size hg1.size)
              | (refine step_app (by rfl) (.tmp 37) (.tmp 39) (by rfl) w.heap.size _ v1 _ _ [n] (by rfl) (by rfl) (hown1.alloc (.cells #[.int .i64 n] 3)) (IsL.one HN.out one_A) (by have := HLN.out; simp <;> omega) (show w.heap.size ≤ (W2.alloc (.cells #[.int .i64 n] 3)).heap.size from Nat.le_trans hs1 (by simp)) ?_; intro v2 W4 hown2 hg2; have hb2 := Own.grow' (hown1.alloc (.cells #[.int .i64 n] 3)) (hb1.alloc hs1 (.cells #[.int .i64 n] 3)) (show w.heap.size ≤ (W2.alloc (.cells #[.int .i64 n] 3)).heap.size from Nat.le_trans hs1 (by simp)) hg2; have hs2 := hb2.size)
              | (refine step_app (by rfl) (.tmp 37) (.tmp 39) (by rfl) w.heap.size _ v1 _ _ [n] (by rfl) (by rfl) hown1 (IsL.one HN.out (one_B hg1)) (by have := HLN.out; simp <;> omega) hs1 ?_; intro v2 W4 hown2 hg2; have hb2 := Own.grow' hown1 hb1 hs1 hg2; have hs2 := hb2.size)
              | (refine step_app (by rfl) (.tmp 37) (.tmp 39) (by rfl) w.heap.size _ v1 _ _ [n] (by rfl) (by rfl) hown1 (IsL.one HN.out (one_C hg1)) (by have := HLN.out; simp <;> omega) hs1 ?_; intro v2 W4 hown2 hg2; have hb2 := Own.grow' hown1 hb1 hs1 hg2; have hs2 := hb2.size)
              | (refine step_app (by rfl) (.tmp 40) (.tmp 43) (by rfl) w.heap.size _ v2 _ _ (s.drop k) (by rfl) (by rfl) hown2 (HD.out.below hb2) (by have := HLN.out; simp <;> omega) hs2 ?_; intro v3 W5 hown3 hg3; have hb3 := Own.grow' hown2 hb2 hs2 hg3))
          all_goals
            go_wp2
            all_goals
              go_ret
              refine ⟨_, rfl, ?_, .inr (fun k hk => (hown3.lt k hk).1), hb3⟩
              have h := hown3.isL (by have := HLN.out; simp <;> omega)
              rw [HPU.out]; simpa using h
    · have hkl : k = s.length := by omega
      have HPU := Lib.hid (put_at s n k hk HL.out (fun h => absurd h (by omega)))
      subst hkl
      go_wp2
      have mA := Lib.hid (made_A w)
      have mB := Lib.hid (made_B w n)
      have mC := Lib.hid (made_C w n)
      go_region_held3 (fun _ => True) (trivial)
        (first
          | (refine step_app (by rfl) (.tmp 33) (.tmp 36) (by rfl) w.heap.size _ _ _ [] (s.take s.length) (by rfl) (by rfl) mA.out.own (HT.out.below mA.out.below) (by have := HLN.out; simp <;> omega) mA.out.size ?_; intro v1 W2 hown1 hg1; have hb1 := Own.grow' mA.out.own mA.out.below mA.out.size hg1; have hs1 := Nat.le_trans mA.out.size hg1.size)
          | (refine step_app (by rfl) (.tmp 33) (.tmp 36) (by rfl) w.heap.size _ _ _ [] (s.take s.length) (by rfl) (by rfl) mB.out.own (HT.out.below mB.out.below) (by have := HLN.out; simp <;> omega) mB.out.size ?_; intro v1 W2 hown1 hg1; have hb1 := Own.grow' mB.out.own mB.out.below mB.out.size hg1; have hs1 := Nat.le_trans mB.out.size hg1.size)
          | (refine step_app (by rfl) (.tmp 33) (.tmp 36) (by rfl) w.heap.size _ _ _ [] (s.take s.length) (by rfl) (by rfl) mC.out.own (HT.out.below mC.out.below) (by have := HLN.out; simp <;> omega) mC.out.size ?_; intro v1 W2 hown1 hg1; have hb1 := Own.grow' mC.out.own mC.out.below mC.out.size hg1; have hs1 := Nat.le_trans mC.out.size hg1.size)
          | (refine step_app (by rfl) (.tmp 37) (.tmp 39) (by rfl) w.heap.size _ v1 _ _ [n] (by rfl) (by rfl) (hown1.alloc (.cells #[.int .i64 n] 3)) (IsL.one HN.out one_A) (by have := HLN.out; simp <;> omega) (show w.heap.size ≤ (W2.alloc (.cells #[.int .i64 n] 3)).heap.size from Nat.le_trans hs1 (by simp)) ?_; intro v2 W4 hown2 hg2; have hb2 := Own.grow' (hown1.alloc (.cells #[.int .i64 n] 3)) (hb1.alloc hs1 (.cells #[.int .i64 n] 3)) (show w.heap.size ≤ (W2.alloc (.cells #[.int .i64 n] 3)).heap.size from Nat.le_trans hs1 (by simp)) hg2; have hs2 := hb2.size)
          | (refine step_app (by rfl) (.tmp 37) (.tmp 39) (by rfl) w.heap.size _ v1 _ _ [n] (by rfl) (by rfl) hown1 (IsL.one HN.out (one_B hg1)) (by have := HLN.out; simp <;> omega) hs1 ?_; intro v2 W4 hown2 hg2; have hb2 := Own.grow' hown1 hb1 hs1 hg2; have hs2 := hb2.size)
          | (refine step_app (by rfl) (.tmp 37) (.tmp 39) (by rfl) w.heap.size _ v1 _ _ [n] (by rfl) (by rfl) hown1 (IsL.one HN.out (one_C hg1)) (by have := HLN.out; simp <;> omega) hs1 ?_; intro v2 W4 hown2 hg2; have hb2 := Own.grow' hown1 hb1 hs1 hg2; have hs2 := hb2.size)
          | (refine step_app (by rfl) (.tmp 40) (.tmp 43) (by rfl) w.heap.size _ v2 _ _ ([] : List Int) (by rfl) (by rfl) hown2 ((IsL.nil w w.heap.size _ _).below hb2) (by have := HLN.out; simp <;> omega) hs2 ?_; intro v3 W5 hown3 hg3; have hb3 := Own.grow' hown2 hb2 hs2 hg3))
      all_goals
        go_wp2
        all_goals
          go_ret
          refine ⟨_, rfl, ?_, .inr (fun k hk => (hown3.lt k hk).1), hb3⟩
          have h := hown3.isL (by have := HLN.out; simp <;> omega)
          rw [HPU.out]; simpa using h
set_option maxHeartbeats 4000000 in
theorem put_empty' (A : Option Addr) (cap : Nat) (n : Int) (hn : fits n) (w : World) :
    Calls Try.prog 78 #[.slice A 0 cap, .int .i64 n] w fun e w' => ∃ v, e = .returned v ∧ IsL w' w'.heap.size v [n] ∧ (v = .slice A 0 cap ∨ ∀ k, v.ownBlock = some k → w.heap.size ≤ k) ∧ Below w.heap.size w w' := by
  have HN := Lib.hid hn
  clear hn
  rcases A with _ | ad
  · go_enter Try.func78, Try.ntmps78
    go_wp2
    go_loop [5] (fun i => i = .int .i64 0) (fun _ => 0)
    case atStart => rfl
    case round =>
      obtain rfl := hrel
      go_wp2
      have HLN := Lib.hid (rfl : ([] : List Int).length = 0)
      have mA := Lib.hid (made_A w)
      have mB := Lib.hid (made_B w n)
      have mC := Lib.hid (made_C w n)
      go_region_held3 (fun _ => True) (trivial)
        (first
          | (refine step_app (by rfl) (.tmp 33) (.tmp 36) (by rfl) w.heap.size _ _ _ [] ([] : List Int) (by rfl) (by rfl) mA.out.own ((IsL.nil w w.heap.size _ _).below mA.out.below) (by have := HLN.out; simp <;> omega) mA.out.size ?_; intro v1 W2 hown1 hg1; have hb1 := Own.grow' mA.out.own mA.out.below mA.out.size hg1; have hs1 := Nat.le_trans mA.out.size hg1.size)
          | (refine step_app (by rfl) (.tmp 33) (.tmp 36) (by rfl) w.heap.size _ _ _ [] ([] : List Int) (by rfl) (by rfl) mB.out.own ((IsL.nil w w.heap.size _ _).below mB.out.below) (by have := HLN.out; simp <;> omega) mB.out.size ?_; intro v1 W2 hown1 hg1; have hb1 := Own.grow' mB.out.own mB.out.below mB.out.size hg1; have hs1 := Nat.le_trans mB.out.size hg1.size)
          | (refine step_app (by rfl) (.tmp 33) (.tmp 36) (by rfl) w.heap.size _ _ _ [] ([] : List Int) (by rfl) (by rfl) mC.out.own ((IsL.nil w w.heap.size _ _).below mC.out.below) (by have := HLN.out; simp <;> omega) mC.out.size ?_; intro v1 W2 hown1 hg1; have hb1 := Own.grow' mC.out.own mC.out.below mC.out.size hg1; have hs1 := Nat.le_trans mC.out.size hg1.size)
          | (refine step_app (by rfl) (.tmp 37) (.tmp 39) (by rfl) w.heap.size _ v1 _ _ [n] (by rfl) (by rfl) (hown1.alloc (.cells #[.int .i64 n] 3)) (IsL.one HN.out one_A) (by have := HLN.out; simp <;> omega) (show w.heap.size ≤ (W2.alloc (.cells #[.int .i64 n] 3)).heap.size from Nat.le_trans hs1 (by simp)) ?_; intro v2 W4 hown2 hg2; have hb2 := Own.grow' (hown1.alloc (.cells #[.int .i64 n] 3)) (hb1.alloc hs1 (.cells #[.int .i64 n] 3)) (show w.heap.size ≤ (W2.alloc (.cells #[.int .i64 n] 3)).heap.size from Nat.le_trans hs1 (by simp)) hg2; have hs2 := hb2.size)
          | (refine step_app (by rfl) (.tmp 37) (.tmp 39) (by rfl) w.heap.size _ v1 _ _ [n] (by rfl) (by rfl) hown1 (IsL.one HN.out (one_B hg1)) (by have := HLN.out; simp <;> omega) hs1 ?_; intro v2 W4 hown2 hg2; have hb2 := Own.grow' hown1 hb1 hs1 hg2; have hs2 := hb2.size)
          | (refine step_app (by rfl) (.tmp 37) (.tmp 39) (by rfl) w.heap.size _ v1 _ _ [n] (by rfl) (by rfl) hown1 (IsL.one HN.out (one_C hg1)) (by have := HLN.out; simp <;> omega) hs1 ?_; intro v2 W4 hown2 hg2; have hb2 := Own.grow' hown1 hb1 hs1 hg2; have hs2 := hb2.size)
          | (refine step_app (by rfl) (.tmp 40) (.tmp 43) (by rfl) w.heap.size _ v2 _ _ ([] : List Int) (by rfl) (by rfl) hown2 ((IsL.nil w w.heap.size _ _).below hb2) (by have := HLN.out; simp <;> omega) hs2 ?_; intro v3 W5 hown3 hg3; have hb3 := Own.grow' hown2 hb2 hs2 hg3))
      all_goals
        go_wp2
        all_goals
          go_ret
          refine ⟨_, rfl, ?_, .inr (fun k hk => (hown3.lt k hk).1), hb3⟩
          have h := hown3.isL (by have := HLN.out; simp <;> omega)
          simpa using h
  · by_cases hc : cap = 0
    · subst hc
      go_enter Try.func78, Try.ntmps78
      go_wp2
      go_loop [5] (fun i => i = .int .i64 0) (fun _ => 0)
      case atStart => rfl
      case round =>
        obtain rfl := hrel
        go_wp2
        have HLN := Lib.hid (rfl : ([] : List Int).length = 0)
        have mA := Lib.hid (made_A w)
        have mB := Lib.hid (made_B w n)
        have mC := Lib.hid (made_C w n)
        go_region_held3 (fun _ => True) (trivial)
          (first
            | (refine step_app (by rfl) (.tmp 33) (.tmp 36) (by rfl) w.heap.size _ _ _ [] ([] : List Int) (by rfl) (by rfl) mA.out.own ((IsL.nil w w.heap.size _ _).below mA.out.below) (by have := HLN.out; simp <;> omega) mA.out.size ?_; intro v1 W2 hown1 hg1; have hb1 := Own.grow' mA.out.own mA.out.below mA.out.size hg1; have hs1 := Nat.le_trans mA.out.size hg1.size)
            | (refine step_app (by rfl) (.tmp 33) (.tmp 36) (by rfl) w.heap.size _ _ _ [] ([] : List Int) (by rfl) (by rfl) mB.out.own ((IsL.nil w w.heap.size _ _).below mB.out.below) (by have := HLN.out; simp <;> omega) mB.out.size ?_; intro v1 W2 hown1 hg1; have hb1 := Own.grow' mB.out.own mB.out.below mB.out.size hg1; have hs1 := Nat.le_trans mB.out.size hg1.size)
            | (refine step_app (by rfl) (.tmp 33) (.tmp 36) (by rfl) w.heap.size _ _ _ [] ([] : List Int) (by rfl) (by rfl) mC.out.own ((IsL.nil w w.heap.size _ _).below mC.out.below) (by have := HLN.out; simp <;> omega) mC.out.size ?_; intro v1 W2 hown1 hg1; have hb1 := Own.grow' mC.out.own mC.out.below mC.out.size hg1; have hs1 := Nat.le_trans mC.out.size hg1.size)
            | (refine step_app (by rfl) (.tmp 37) (.tmp 39) (by rfl) w.heap.size _ v1 _ _ [n] (by rfl) (by rfl) (hown1.alloc (.cells #[.int .i64 n] 3)) (IsL.one HN.out one_A) (by have := HLN.out; simp <;> omega) (show w.heap.size ≤ (W2.alloc (.cells #[.int .i64 n] 3)).heap.size from Nat.le_trans hs1 (by simp)) ?_; intro v2 W4 hown2 hg2; have hb2 := Own.grow' (hown1.alloc (.cells #[.int .i64 n] 3)) (hb1.alloc hs1 (.cells #[.int .i64 n] 3)) (show w.heap.size ≤ (W2.alloc (.cells #[.int .i64 n] 3)).heap.size from Nat.le_trans hs1 (by simp)) hg2; have hs2 := hb2.size)
            | (refine step_app (by rfl) (.tmp 37) (.tmp 39) (by rfl) w.heap.size _ v1 _ _ [n] (by rfl) (by rfl) hown1 (IsL.one HN.out (one_B hg1)) (by have := HLN.out; simp <;> omega) hs1 ?_; intro v2 W4 hown2 hg2; have hb2 := Own.grow' hown1 hb1 hs1 hg2; have hs2 := hb2.size)
            | (refine step_app (by rfl) (.tmp 37) (.tmp 39) (by rfl) w.heap.size _ v1 _ _ [n] (by rfl) (by rfl) hown1 (IsL.one HN.out (one_C hg1)) (by have := HLN.out; simp <;> omega) hs1 ?_; intro v2 W4 hown2 hg2; have hb2 := Own.grow' hown1 hb1 hs1 hg2; have hs2 := hb2.size)
            | (refine step_app (by rfl) (.tmp 40) (.tmp 43) (by rfl) w.heap.size _ v2 _ _ ([] : List Int) (by rfl) (by rfl) hown2 ((IsL.nil w w.heap.size _ _).below hb2) (by have := HLN.out; simp <;> omega) hs2 ?_; intro v3 W5 hown3 hg3; have hb3 := Own.grow' hown2 hb2 hs2 hg3))
        all_goals
          go_wp2
          all_goals
            go_ret
            refine ⟨_, rfl, ?_, .inr (fun k hk => (hown3.lt k hk).1), hb3⟩
            have h := hown3.isL (by have := HLN.out; simp <;> omega)
            simpa using h
    · go_enter Try.func78, Try.ntmps78
      go_wp2
      go_loop [5] (fun i => i = .int .i64 0) (fun _ => 0)
      case atStart => rfl
      case round =>
        obtain rfl := hrel
        go_wp2
        have HLN := Lib.hid (rfl : ([] : List Int).length = 0)
        have mA := Lib.hid (made_A w)
        have mB := Lib.hid (made_B w n)
        have mC := Lib.hid (made_C w n)
        go_region_held3 (fun _ => True) (trivial)
          (first
            | (refine step_app (by rfl) (.tmp 33) (.tmp 36) (by rfl) w.heap.size _ _ _ [] ([] : List Int) (by rfl) (by rfl) mA.out.own ((IsL.nil w w.heap.size _ _).below mA.out.below) (by have := HLN.out; simp <;> omega) mA.out.size ?_; intro v1 W2 hown1 hg1; have hb1 := Own.grow' mA.out.own mA.out.below mA.out.size hg1; have hs1 := Nat.le_trans mA.out.size hg1.size)
            | (refine step_app (by rfl) (.tmp 33) (.tmp 36) (by rfl) w.heap.size _ _ _ [] ([] : List Int) (by rfl) (by rfl) mB.out.own ((IsL.nil w w.heap.size _ _).below mB.out.below) (by have := HLN.out; simp <;> omega) mB.out.size ?_; intro v1 W2 hown1 hg1; have hb1 := Own.grow' mB.out.own mB.out.below mB.out.size hg1; have hs1 := Nat.le_trans mB.out.size hg1.size)
            | (refine step_app (by rfl) (.tmp 33) (.tmp 36) (by rfl) w.heap.size _ _ _ [] ([] : List Int) (by rfl) (by rfl) mC.out.own ((IsL.nil w w.heap.size _ _).below mC.out.below) (by have := HLN.out; simp <;> omega) mC.out.size ?_; intro v1 W2 hown1 hg1; have hb1 := Own.grow' mC.out.own mC.out.below mC.out.size hg1; have hs1 := Nat.le_trans mC.out.size hg1.size)
            | (refine step_app (by rfl) (.tmp 37) (.tmp 39) (by rfl) w.heap.size _ v1 _ _ [n] (by rfl) (by rfl) (hown1.alloc (.cells #[.int .i64 n] 3)) (IsL.one HN.out one_A) (by have := HLN.out; simp <;> omega) (show w.heap.size ≤ (W2.alloc (.cells #[.int .i64 n] 3)).heap.size from Nat.le_trans hs1 (by simp)) ?_; intro v2 W4 hown2 hg2; have hb2 := Own.grow' (hown1.alloc (.cells #[.int .i64 n] 3)) (hb1.alloc hs1 (.cells #[.int .i64 n] 3)) (show w.heap.size ≤ (W2.alloc (.cells #[.int .i64 n] 3)).heap.size from Nat.le_trans hs1 (by simp)) hg2; have hs2 := hb2.size)
            | (refine step_app (by rfl) (.tmp 37) (.tmp 39) (by rfl) w.heap.size _ v1 _ _ [n] (by rfl) (by rfl) hown1 (IsL.one HN.out (one_B hg1)) (by have := HLN.out; simp <;> omega) hs1 ?_; intro v2 W4 hown2 hg2; have hb2 := Own.grow' hown1 hb1 hs1 hg2; have hs2 := hb2.size)
            | (refine step_app (by rfl) (.tmp 37) (.tmp 39) (by rfl) w.heap.size _ v1 _ _ [n] (by rfl) (by rfl) hown1 (IsL.one HN.out (one_C hg1)) (by have := HLN.out; simp <;> omega) hs1 ?_; intro v2 W4 hown2 hg2; have hb2 := Own.grow' hown1 hb1 hs1 hg2; have hs2 := hb2.size)
            | (refine step_app (by rfl) (.tmp 40) (.tmp 43) (by rfl) w.heap.size _ v2 _ _ ([] : List Int) (by rfl) (by rfl) hown2 ((IsL.nil w w.heap.size _ _).below hb2) (by have := HLN.out; simp <;> omega) hs2 ?_; intro v3 W5 hown3 hg3; have hb3 := Own.grow' hown2 hb2 hs2 hg3))
        all_goals
          go_wp2
          all_goals
            go_ret
            refine ⟨_, rfl, ?_, .inr (fun k hk => (hown3.lt k hk).1), hb3⟩
            have h := hown3.isL (by have := HLN.out; simp <;> omega)
            simpa using h
theorem put_any' (v : Value) (s : List Int) (n : Int) (hn : fits n) (w : World) (h : IsL w w.heap.size v s) (hl : s.length ≤ 1000) :
    Calls Try.prog 78 #[v, .int .i64 n] w fun e w' => ∃ v', e = .returned v' ∧ IsL w' w'.heap.size v' (put s n) ∧ (v' = v ∨ ∀ k, v'.ownBlock = some k → w.heap.size ≤ k) ∧ Below w.heap.size w w' := by
  obtain ⟨⟨A, cap, rfl, hcap, hA⟩, hf, _⟩ := h
  by_cases h0 : 0 < s.length
  · obtain ⟨b, off, rfl, hb, hc⟩ := hA h0
    exact put_full' b off cap s n hn w h0 hl hcap hb hf hc
  · obtain rfl : s = [] := List.eq_nil_of_length_eq_zero (by omega)
    exact put_empty' A cap n hn w
set_option maxRecDepth 100000 in
set_option maxHeartbeats 2000000 in
theorem rfrom_any' (v : Value) (xs : List Int) (w : World) (h : IsL w w.heap.size v xs) (hl : xs.length ≤ 1000) :
    Calls Try.prog 40 #[v] w fun e w' => ∃ v, e = .returned v ∧ IsL w' w'.heap.size v (mk xs) ∧ (∀ k, v.ownBlock = some k → w.heap.size ≤ k) ∧ Below w.heap.size w w' := by
  obtain ⟨⟨A, cap, rfl, hcap, hA⟩, hfit, hlen⟩ := h
  have HA := Lib.hid hA
  have HF := Lib.hid hfit
  clear hA hfit
  go_enter Try.func40, Try.ntmps40
  go_wp2
  go_loopw [3, 4] (fun u i wr => ∃ k : Nat, k ≤ xs.length ∧ i = .int .i64 (k : Int) ∧ IsL wr wr.heap.size u (mk (xs.take k)) ∧ Hid (∀ k, u.ownBlock = some k → w.heap.size ≤ k) ∧ Below w.heap.size w wr) (fun _ i _ => xs.length - (intOf i).toNat)
  case atStart => exact ⟨0, Nat.zero_le _, rfl, IsL.nil _ _ _ _, Lib.hid (fun k hk => by cases hk), Below.refl _ _⟩
  case round =>
    obtain ⟨k, hk, rfl, hu, HOB, hbel⟩ := hrel
    have HU := Lib.hid hu
    have HL := Lib.hid hbel
    by_cases hlt : k < xs.length
    · obtain ⟨b, off, rfl, hbB, hcell⟩ := HA.out (by omega)
      have hx : wr.cell? ⟨b, off + k, none⟩ = some (.int .i64 (xs.getD k 0)) := (hbel.cell (p := ⟨b, off + k, none⟩) hbB).trans (hcell k hlt)
      have hml := mk_len_le (xs.take k)
      rw [List.length_take] at hml
      have hput := fun hfx => put_any' _ _ (xs.getD k 0) hfx wr hu (by omega)
      have HPU := Lib.hid (hput (getD_fits HF.out k))
      have HTK := Lib.hid (show mk (xs.take (k + 1)) = put (mk (xs.take k)) (xs.getD k 0) by rw [take_getD xs k hlt, mk_snoc])
      clear hcell hu hbel hput hml
      generalize xs.getD k 0 = x at *
      go_wp2_with (go_at_call 78; refine (HPU.out).mono ?_; rintro e w1 ⟨v1, rfl, hv1, hob, hb1⟩)
      have H1 := Lib.hid hv1
      have H2 := Lib.hid (HL.out.trans (hb1.mono HL.out.size))
      have HO1 := Lib.hid (show ∀ k, v1.ownBlock = some k → w.heap.size ≤ k from fun k hk => hob.elim (fun e => HOB.out k (by rw [← e]; exact hk)) (fun h => Nat.le_trans HL.out.size (h k hk)))
      clear hv1 hb1 hob
      go_wp2
      go_roundw
      case rel => exact ⟨k + 1, by omega, num_i (by omega), by rw [HTK.out]; exact H1.out, HO1, H2.out⟩
      case measure => simp [intOf]; omega
    · obtain rfl : k = xs.length := by omega
      rw [List.take_length] at HU
      clear hu hbel
      go_wp2
      go_ret
      exact ⟨_, rfl, HU.out, HOB.out, HL.out⟩
end Go.Proofs.Ytacjonncakhhmaa.Two
