/- The reference's order: each number put in its place, list after list. -/
import Derived.Test.YtdnifilmckialaaDoorWU
namespace Go.Proofs.YtdnifilmckialaaDoor
open Go.RowKit

theorem below_down {S B : Nat} {X W : World} (h : Below S X W) (hB : B ≤ S) : Below B X W := ⟨h.os, h.tape, h.output, h.size, fun k hk => h.block k (by omega)⟩
theorem own_end {S B i kk x : Nat} {L M : List Nat} {W : World} {v : Value} (hB : B ≤ S) (hk : kk ≤ i) (hM : M = L.take kk ++ [x] ++ L.drop kk) (h : W.ownsRow S 23 1 v (0 + kk + 1 + (i - kk)) ([] ++ (L.take kk).map bitsR ++ [bitsR x] ++ (L.drop kk).map bitsR)) : W.ownsRow B 23 1 v (i + 1) (M.map bitsR) := by
  have h2 := own_base hB h
  rw [show 0 + kk + 1 + (i - kk) = i + 1 by omega] at h2
  rw [hM]
  simpa using h2
theorem own_end2 {S B i x : Nat} {L M : List Nat} {W : World} {v : Value} (hB : B ≤ S) (hM : M = L ++ [x]) (h : W.ownsRow S 23 1 v (0 + i + 1 + 0) ([] ++ L.map bitsR ++ [bitsR x] ++ [])) : W.ownsRow B 23 1 v (i + 1) (M.map bitsR) := by
  have h2 := own_base hB h
  rw [show 0 + i + 1 + 0 = i + 1 by omega] at h2
  rw [hM]
  simpa using h2
theorem own_end3 {S B x : Nat} {M : List Nat} {W : World} {v : Value} (hB : B ≤ S) (hM : M = [] ++ [x]) (h : W.ownsRow S 23 1 v (0 + 0 + 1 + 0) ([] ++ [] ++ [bitsR x] ++ [])) : W.ownsRow B 23 1 v (0 + 1) (M.map bitsR) := by
  have h2 := own_base hB h
  rw [hM]
  simpa using h2
theorem src_nil (W : World) : Src W none 0 0 [] := ⟨rfl, fun u hu => by simp at hu, fun _ => ⟨rfl, rfl⟩, fun ad had => by cases had⟩
set_option maxHeartbeats 2000000 in
theorem rsort_any (g n cap : Nat) (ls : List Nat) (hx : ls.length = n) (hn : n ≤ 1000) (hlt : ∀ x ∈ ls, x < 18446744073709551616) (w : World) (hc : CellsR w g 0 ls) (hg : 0 < n → g < w.heap.size) :
    Calls Tryd.prog 26 #[.slice (some ⟨g, 0, none⟩) n cap] w fun e w' => ∃ v, e = .returned v ∧ w'.ownsRow w.heap.size 23 1 v n ((rsort ls).map bitsR) ∧ Below w.heap.size w w' := by
  have HX := Lib.hid hx
  have HLT := Lib.hid hlt
  have HC := Lib.hid hc
  obtain ⟨B, hB⟩ : ∃ B, B = w.heap.size := ⟨_, rfl⟩
  have HB := Lib.hid hB
  rw [← hB] at hg ⊢
  have HG := Lib.hid hg
  clear hx hlt hc hB hg
  go_enter Tryd.func26, Tryd.ntmps26
  go_wp2
  go_loopw [3, 4] (fun v i wr => ∃ k : Nat, k ≤ n ∧ i = .int .i64 k ∧ wr.ownsRow B 23 1 v k ((rsort (ls.take k)).map bitsR) ∧ Below B w wr) (fun _ i _ => n - (intOf i).toNat)
  case atStart => exact ⟨0, Nat.zero_le _, rfl, World.ownsRow_nil _ _ _ _, Below.refl _ _⟩
  case round =>
    obtain ⟨i, hi, rfl, hown, hnx⟩ := hrel
    by_cases hlt : i < n
    · obtain ⟨x, hxx⟩ : ∃ x, ls.getD i 0 = x := ⟨_, rfl⟩
      have hxl : x < 18446744073709551616 := by
        rw [← hxx]
        exact HLT.out _ (by have := HX.out; rw [List.getD_eq_getElem?_getD, List.getElem?_eq_getElem (by omega)]; exact List.getElem_mem _)
      have hcx : wr.cell? ⟨g, i, none⟩ = some (.int .u64 x) := by
        have e := HC.out i (by rw [HX.out]; exact hlt)
        rw [Nat.zero_add, hxx] at e
        exact (hnx.cell (p := ⟨g, i, none⟩) (by have := HG.out (by omega); exact this)).trans e
      have htk := take_snoc_getD ls i (by rw [HX.out]; exact hlt)
      rw [hxx] at htk
      have hins : rsort (ls.take (i + 1)) = insR (rsort (ls.take i)) x := by rw [htk, rsort_snoc]
      have hLl : (rsort (ls.take i)).length = i := by rw [rsort_length, List.length_take, HX.out]; omega
      have hLt : ∀ y ∈ rsort (ls.take i), y < 18446744073709551616 := fun y hy => HLT.out y (List.mem_of_mem_take ((rsort_perm _).subset hy))
      clear htk hxx
      generalize rsort (ls.take i) = L at *
      obtain ⟨ao, cap', rfl, hform⟩ := own_form hLl hown
      have HINS := Lib.hid hins
      have HLL := Lib.hid hLl
      have HLTL := Lib.hid hLt
      have HF := Lib.hid hform
      have HOWN := Lib.hid hown
      have HNX := Lib.hid hnx
      clear hins hLl hLt hform hown hnx
      obtain ⟨w0, hw0⟩ : ∃ w0, w0 = wr := ⟨_, rfl⟩
      subst hw0
      go_wp2
      go_loopw [5] (fun k wr2 => ∃ (kk d : Nat), kk ≤ i ∧ k = .int .i64 kk ∧ wr2 = w0.drewN d ∧ Upto L x kk) (fun k _ => i - (intOf k).toNat)
      case atStart => exact ⟨0, 0, Nat.zero_le _, rfl, rfl, upto_0 _ _⟩
      case round =>
        obtain ⟨kk, d, hkk, rfl, hw2, hup⟩ := hrel
        have HUP := Lib.hid hup
        have hcx2 : wr.cell? ⟨g, i, none⟩ = some (.int .u64 x) := by rw [hw2]; exact hcx
        have HW2 := Lib.hid hw2
        clear hup hw2
        by_cases hk : kk < i
        · rcases HF.out with ⟨_, h0, _⟩ | ⟨G, rfl, hBG, hGw, hcap, hcells⟩
          · exact absurd hk (by omega)
          · have hcy : wr.cell? ⟨G, kk, none⟩ = some (.int .u64 (L.getD kk 0)) := by rw [HW2.out]; exact hcells kk hk
            have hyl : L.getD kk 0 < 18446744073709551616 := HLTL.out _ (by have := HLL.out; rw [List.getD_eq_getElem?_getD, List.getElem?_eq_getElem (by omega)]; exact List.getElem_mem _)
            have hle : decide ((rnk (L.getD kk 0) : Int) ≤ rnk x) = le (L.getD kk 0) x := by simp [le]
            have hup1 : le (L.getD kk 0) x = true → Upto L x (kk + 1) := fun hh => upto_s L x kk HUP.out (by rw [HLL.out]; exact hk) hh
            have hins1 : le (L.getD kk 0) x = false → insR L x = L.take kk ++ [x] ++ L.drop kk := fun hh => insR_at L x kk HUP.out (by rw [HLL.out]; exact hkk) (fun _ => hh)
            have HUP1 := Lib.hid hup1
            have HIN1 := Lib.hid hins1
            have HCS := Lib.hid hcells
            clear hup1 hins1 hcells
            generalize L.getD kk 0 = y at *
            rcases Bool.eq_false_or_eq_true (le y x) with ha | ha
            · have hle' : decide ((rnk y : Int) ≤ rnk x) = true := hle.trans ha
              clear hle
              go_wp2_with fail
              go_quiet (first | (go_at_call 22; with_reducible refine Calls.quiet_of_same ((rrank_any y hyl _).mono fun _ _ ⟨he, hw⟩ => ⟨he, hw.symm⟩)) | (go_at_call 22; refine Calls.quiet_of_same ((rrank_any x hxl _).mono fun _ _ ⟨he, hw⟩ => ⟨he, hw.symm⟩)))
              rw [show decide (rnk y ≤ rnk x) = true from ha]
              go_wp2
              go_roundw
              case rel =>
                have e1 := HW2.out
                subst e1
                exact ⟨kk + 1, d + _, by omega, num_i (by omega), World.drewN_drewN _ _ _, HUP1.out ha⟩
              case measure => simp [intOf]; omega
            · have hle' : decide ((rnk y : Int) ≤ rnk x) = false := hle.trans ha
              clear hle
              go_wp2_with fail
              go_quiet (first | (go_at_call 22; with_reducible refine Calls.quiet_of_same ((rrank_any y hyl _).mono fun _ _ ⟨he, hw⟩ => ⟨he, hw.symm⟩)) | (go_at_call 22; refine Calls.quiet_of_same ((rrank_any x hxl _).mono fun _ _ ⟨he, hw⟩ => ⟨he, hw.symm⟩)))
              rw [show decide (rnk y ≤ rnk x) = false from ha]
              go_wp2
              obtain ⟨X, hX0⟩ : ∃ X, X = wr.drewN nq := ⟨_, rfl⟩
              rw [← hX0]
              have hcX : X.cell? ⟨g, i, none⟩ = some (.int .u64 x) := by rw [hX0]; exact hcx2
              have hXs : X.heap.size = w0.heap.size := by rw [hX0, HW2.out]; rfl
              have hBX : Below B w X := by rw [hX0, HW2.out]; exact below_drewN (below_drewN HNX.out _) _
              have hBs : B ≤ X.heap.size := by rw [hXs, HB.out]; exact HNX.out.size
              have hso : ∀ W, Below X.heap.size X W → Src W (some ⟨G, 0, none⟩) kk cap' ((L.take kk).map bitsR) ∧ Src W (if cap' = kk then some ⟨G, 0, none⟩ else some ⟨G, kk, none⟩) (i - kk) (cap' - kk) ((L.drop kk).map bitsR) := fun W hW => by
                rcases src_old (X := X) HLL.out (by rw [hXs]; exact hGw) (fun j hj => by rw [hX0, HW2.out]; exact HCS.out j hj) hW kk cap' hkk with h | h
                · exact h
                · omega
              have hIN := HIN1.out ha
              have HSO := Lib.hid hso
              have HIN := Lib.hid hIN
              have HBX := Lib.hid hBX
              have HBS := Lib.hid hBs
              clear hX0 hXs hBX hBs hso hIN
              have i1 : (0 : Int) ≤ (i : Int) := by omega
              have i2 : (i : Int) < (n : Int) := by omega
              have i3 : (0 : Int) ≤ (kk : Int) := by omega
              have i4 : (kk : Int) ≤ (i : Int) := by omega
              have i5 : (kk : Int) ≤ (cap' : Int) := by omega
              have hgX : g < X.heap.size := World.block_lt_of_cell? X _ hcX
              have hkc : ∀ W, Below X.heap.size X W → W.cell? ⟨g, i, none⟩ = some (.int .u64 x) := fun W hW => (hW.cell (p := ⟨g, i, none⟩) hgX).trans hcX
              have HKC := Lib.hid hkc
              have HGX := Lib.hid hgX
              clear hkc hgX
              have mA := Lib.hid (made_A X)
              have mB := Lib.hid (made_B X x)
              have mC := Lib.hid (made_C X x)
              go_region_held3 (fun w' => w'.cell? ⟨g, i, none⟩ = some (.int .u64 x)) (go_keep)
                (first
                  | (refine step_app (by rfl) (.tmp 31) (.tmp 34) (by rfl) X.heap.size _ 0 [] (by rfl) mA.out.own _ _ _ _ (by rfl) (HSO.out _ mA.out.below).1 (by omega) mA.out.size ?_; intro v1 W2 hown1 hg1; have hb1 := grow_own mA.out.below mA.out.size mA.out.own hg1; have hs1 := Nat.le_trans mA.out.size hg1.size; have hc1 := HKC.out _ hb1)
                  | (refine step_app (by rfl) (.tmp 31) (.tmp 34) (by rfl) X.heap.size _ 0 [] (by rfl) mB.out.own _ _ _ _ (by rfl) (HSO.out _ mB.out.below).1 (by omega) mB.out.size ?_; intro v1 W2 hown1 hg1; have hb1 := grow_own mB.out.below mB.out.size mB.out.own hg1; have hs1 := Nat.le_trans mB.out.size hg1.size; have hc1 := HKC.out _ hb1)
                  | (refine step_app (by rfl) (.tmp 31) (.tmp 34) (by rfl) X.heap.size _ 0 [] (by rfl) mC.out.own _ _ _ _ (by rfl) (HSO.out _ mC.out.below).1 (by omega) mC.out.size ?_; intro v1 W2 hown1 hg1; have hb1 := grow_own mC.out.below mC.out.size mC.out.own hg1; have hs1 := Nat.le_trans mC.out.size hg1.size; have hc1 := HKC.out _ hb1)
                  | (refine step_app (by rfl) (.tmp 35) (.tmp 40) (by rfl) X.heap.size v1 _ _ (by rfl) (hown1.alloc (.cells #[.int .u64 x] 23)) _ 1 1 [bitsR x] (by rfl) (src_one (heap_alloc_new W2 _)) (by omega) (show X.heap.size ≤ (W2.alloc (.cells #[.int .u64 x] 23)).heap.size from Nat.le_trans hs1 (by simp)) ?_; intro v2 W4 hown2 hg2; have hb2 := grow_own (hb1.alloc hs1 (.cells #[.int .u64 x] 23)) (show X.heap.size ≤ (W2.alloc (.cells #[.int .u64 x] 23)).heap.size from Nat.le_trans hs1 (by simp)) (hown1.alloc (.cells #[.int .u64 x] 23)) hg2; have hs2 := Nat.le_trans (show X.heap.size ≤ (W2.alloc (.cells #[.int .u64 x] 23)).heap.size from Nat.le_trans hs1 (by simp)) hg2.size; have hc2 := HKC.out _ hb2)
                  | (refine step_app (by rfl) (.tmp 35) (.tmp 40) (by rfl) X.heap.size v1 _ _ (by rfl) (hown1) _ 1 1 [bitsR x] (by rfl) (src_one (one_B hg1)) (by omega) (hs1) ?_; intro v2 W4 hown2 hg2; have hb2 := grow_own (hb1) (hs1) (hown1) hg2; have hs2 := Nat.le_trans (hs1) hg2.size; have hc2 := HKC.out _ hb2)
                  | (refine step_app (by rfl) (.tmp 35) (.tmp 40) (by rfl) X.heap.size v1 _ _ (by rfl) (hown1) _ 1 1 [bitsR x] (by rfl) (src_one (one_C hg1)) (by omega) (hs1) ?_; intro v2 W4 hown2 hg2; have hb2 := grow_own (hb1) (hs1) (hown1) hg2; have hs2 := Nat.le_trans (hs1) hg2.size; have hc2 := HKC.out _ hb2)
                  | (refine step_app (by rfl) (.tmp 41) (.tmp 44) (by rfl) X.heap.size v2 _ _ (by rfl) hown2 _ _ _ _ (by rfl) (HSO.out _ hb2).2 (by omega) hs2 ?_; intro v3 W5 hown3 hg3; have hb3 := grow_own hb2 hs2 hown2 hg3; have hs3 := Nat.le_trans hs2 hg3.size; have hc3 := HKC.out _ hb3))
              all_goals
                go_wp2
                go_roundw
                case rel => exact ⟨i + 1, by omega, num_i (by omega), by rw [HINS.out]; exact own_end HBS.out hkk HIN.out hown3, HBX.out.trans (below_down hb3 HBS.out)⟩
                case measure => simp [intOf]; omega
        · have hki : i = kk := by omega
          subst hki
          have hin2 : insR L x = L ++ [x] := by
            have h := insR_at L x i HUP.out (by rw [HLL.out]; exact Nat.le_refl _) (fun hh => absurd hh (by rw [HLL.out]; exact Nat.lt_irrefl _))
            rw [List.take_of_length_le (by rw [HLL.out]; exact Nat.le_refl _), List.drop_of_length_le (by rw [HLL.out]; exact Nat.le_refl _), List.append_nil] at h
            exact h
          have HIN2 := Lib.hid hin2
          clear hin2 hk hkk
          rcases HF.out with ⟨rfl, rfl, rfl⟩ | ⟨G, rfl, hBG, hGw, hcap, hcells⟩
          · have hL0 : L = [] := List.eq_nil_of_length_eq_zero HLL.out
            subst hL0
            go_wp2_with fail
            go_quiet (fail)
            go_wp2
            obtain ⟨X, hX0⟩ : ∃ X, X = wr.drewN nq := ⟨_, rfl⟩
            rw [← hX0]
            have hcX : X.cell? ⟨g, 0, none⟩ = some (.int .u64 x) := by rw [hX0]; exact hcx2
            have hXs : X.heap.size = w0.heap.size := by rw [hX0, HW2.out]; rfl
            have hBX : Below B w X := by rw [hX0, HW2.out]; exact below_drewN (below_drewN HNX.out _) _
            have hBs : B ≤ X.heap.size := by rw [hXs, HB.out]; exact HNX.out.size
            have hso : ∀ W, Below X.heap.size X W → Src W none 0 0 [] ∧ Src W none 0 0 [] := fun W _ => ⟨src_nil W, src_nil W⟩
            have hIN := HIN2.out
            have HSO := Lib.hid hso
            have HIN := Lib.hid hIN
            have HBX := Lib.hid hBX
            have HBS := Lib.hid hBs
            clear hX0 hXs hBX hBs hso hIN
            have i2 : (0 : Int) < (n : Int) := by omega
            have hgX : g < X.heap.size := World.block_lt_of_cell? X _ hcX
            have hkc : ∀ W, Below X.heap.size X W → W.cell? ⟨g, 0, none⟩ = some (.int .u64 x) := fun W hW => (hW.cell (p := ⟨g, 0, none⟩) hgX).trans hcX
            have HKC := Lib.hid hkc
            have HGX := Lib.hid hgX
            clear hkc hgX
            have mA := Lib.hid (made_A X)
            have mB := Lib.hid (made_B X x)
            have mC := Lib.hid (made_C X x)
            go_region_held3 (fun w' => w'.cell? ⟨g, 0, none⟩ = some (.int .u64 x)) (go_keep)
              (first
                | (refine step_app (by rfl) (.tmp 31) (.tmp 34) (by rfl) X.heap.size _ 0 [] (by rfl) mA.out.own _ _ _ _ (by rfl) (HSO.out _ mA.out.below).1 (by omega) mA.out.size ?_; intro v1 W2 hown1 hg1; have hb1 := grow_own mA.out.below mA.out.size mA.out.own hg1; have hs1 := Nat.le_trans mA.out.size hg1.size; have hc1 := HKC.out _ hb1)
                | (refine step_app (by rfl) (.tmp 31) (.tmp 34) (by rfl) X.heap.size _ 0 [] (by rfl) mB.out.own _ _ _ _ (by rfl) (HSO.out _ mB.out.below).1 (by omega) mB.out.size ?_; intro v1 W2 hown1 hg1; have hb1 := grow_own mB.out.below mB.out.size mB.out.own hg1; have hs1 := Nat.le_trans mB.out.size hg1.size; have hc1 := HKC.out _ hb1)
                | (refine step_app (by rfl) (.tmp 31) (.tmp 34) (by rfl) X.heap.size _ 0 [] (by rfl) mC.out.own _ _ _ _ (by rfl) (HSO.out _ mC.out.below).1 (by omega) mC.out.size ?_; intro v1 W2 hown1 hg1; have hb1 := grow_own mC.out.below mC.out.size mC.out.own hg1; have hs1 := Nat.le_trans mC.out.size hg1.size; have hc1 := HKC.out _ hb1)
                | (refine step_app (by rfl) (.tmp 35) (.tmp 40) (by rfl) X.heap.size v1 _ _ (by rfl) (hown1.alloc (.cells #[.int .u64 x] 23)) _ 1 1 [bitsR x] (by rfl) (src_one (heap_alloc_new W2 _)) (by omega) (show X.heap.size ≤ (W2.alloc (.cells #[.int .u64 x] 23)).heap.size from Nat.le_trans hs1 (by simp)) ?_; intro v2 W4 hown2 hg2; have hb2 := grow_own (hb1.alloc hs1 (.cells #[.int .u64 x] 23)) (show X.heap.size ≤ (W2.alloc (.cells #[.int .u64 x] 23)).heap.size from Nat.le_trans hs1 (by simp)) (hown1.alloc (.cells #[.int .u64 x] 23)) hg2; have hs2 := Nat.le_trans (show X.heap.size ≤ (W2.alloc (.cells #[.int .u64 x] 23)).heap.size from Nat.le_trans hs1 (by simp)) hg2.size; have hc2 := HKC.out _ hb2)
                | (refine step_app (by rfl) (.tmp 35) (.tmp 40) (by rfl) X.heap.size v1 _ _ (by rfl) (hown1) _ 1 1 [bitsR x] (by rfl) (src_one (one_B hg1)) (by omega) (hs1) ?_; intro v2 W4 hown2 hg2; have hb2 := grow_own (hb1) (hs1) (hown1) hg2; have hs2 := Nat.le_trans (hs1) hg2.size; have hc2 := HKC.out _ hb2)
                | (refine step_app (by rfl) (.tmp 35) (.tmp 40) (by rfl) X.heap.size v1 _ _ (by rfl) (hown1) _ 1 1 [bitsR x] (by rfl) (src_one (one_C hg1)) (by omega) (hs1) ?_; intro v2 W4 hown2 hg2; have hb2 := grow_own (hb1) (hs1) (hown1) hg2; have hs2 := Nat.le_trans (hs1) hg2.size; have hc2 := HKC.out _ hb2)
                | (refine step_app (by rfl) (.tmp 41) (.tmp 44) (by rfl) X.heap.size v2 _ _ (by rfl) hown2 _ _ _ _ (by rfl) (HSO.out _ hb2).2 (by omega) hs2 ?_; intro v3 W5 hown3 hg3; have hb3 := grow_own hb2 hs2 hown2 hg3; have hs3 := Nat.le_trans hs2 hg3.size; have hc3 := HKC.out _ hb3))
            all_goals
              go_wp2
              go_roundw
              case rel => exact ⟨0 + 1, by omega, num_i (by omega), by rw [HINS.out]; exact own_end3 HBS.out HIN.out hown3, HBX.out.trans (below_down hb3 HBS.out)⟩
              case measure => simp [intOf]; omega
          · have HCS := Lib.hid hcells
            clear hcells
            have hdf : decide ((i : Int) < i) = false := by simp
            go_wp2_with fail
            go_quiet (fail)
            go_wp2
            obtain ⟨X, hX0⟩ : ∃ X, X = wr.drewN nq := ⟨_, rfl⟩
            rw [← hX0]
            have hcX : X.cell? ⟨g, i, none⟩ = some (.int .u64 x) := by rw [hX0]; exact hcx2
            have hXs : X.heap.size = w0.heap.size := by rw [hX0, HW2.out]; rfl
            have hBX : Below B w X := by rw [hX0, HW2.out]; exact below_drewN (below_drewN HNX.out _) _
            have hBs : B ≤ X.heap.size := by rw [hXs, HB.out]; exact HNX.out.size
            have hso : ∀ W, Below X.heap.size X W → Src W (some ⟨G, 0, none⟩) i cap' (L.map bitsR) ∧ Src W (if cap' = i then some ⟨G, 0, none⟩ else some ⟨G, i, none⟩) 0 (cap' - i) [] := fun W hW => by
              rcases src_old (X := X) HLL.out (by rw [hXs]; exact hGw) (fun j hj => by rw [hX0, HW2.out]; exact HCS.out j hj) hW i cap' (Nat.le_refl _) with h | h
              · have e1 : L.take i = L := List.take_of_length_le (by rw [HLL.out]; exact Nat.le_refl _)
                have e2 : L.drop i = [] := List.drop_of_length_le (by rw [HLL.out]; exact Nat.le_refl _)
                rw [e1, e2, Nat.sub_self] at h
                exact h
              · omega
            have hIN := HIN2.out
            have HSO := Lib.hid hso
            have HIN := Lib.hid hIN
            have HBX := Lib.hid hBX
            have HBS := Lib.hid hBs
            clear hX0 hXs hBX hBs hso hIN
            have i1 : (0 : Int) ≤ (i : Int) := by omega
            have i2 : (i : Int) < (n : Int) := by omega
            have i5 : (i : Int) ≤ (cap' : Int) := by omega
            have hgX : g < X.heap.size := World.block_lt_of_cell? X _ hcX
            have hkc : ∀ W, Below X.heap.size X W → W.cell? ⟨g, i, none⟩ = some (.int .u64 x) := fun W hW => (hW.cell (p := ⟨g, i, none⟩) hgX).trans hcX
            have HKC := Lib.hid hkc
            have HGX := Lib.hid hgX
            clear hkc hgX
            have mA := Lib.hid (made_A X)
            have mB := Lib.hid (made_B X x)
            have mC := Lib.hid (made_C X x)
            go_region_held3 (fun w' => w'.cell? ⟨g, i, none⟩ = some (.int .u64 x)) (go_keep)
              (first
                | (refine step_app (by rfl) (.tmp 31) (.tmp 34) (by rfl) X.heap.size _ 0 [] (by rfl) mA.out.own _ _ _ _ (by rfl) (HSO.out _ mA.out.below).1 (by omega) mA.out.size ?_; intro v1 W2 hown1 hg1; have hb1 := grow_own mA.out.below mA.out.size mA.out.own hg1; have hs1 := Nat.le_trans mA.out.size hg1.size; have hc1 := HKC.out _ hb1)
                | (refine step_app (by rfl) (.tmp 31) (.tmp 34) (by rfl) X.heap.size _ 0 [] (by rfl) mB.out.own _ _ _ _ (by rfl) (HSO.out _ mB.out.below).1 (by omega) mB.out.size ?_; intro v1 W2 hown1 hg1; have hb1 := grow_own mB.out.below mB.out.size mB.out.own hg1; have hs1 := Nat.le_trans mB.out.size hg1.size; have hc1 := HKC.out _ hb1)
                | (refine step_app (by rfl) (.tmp 31) (.tmp 34) (by rfl) X.heap.size _ 0 [] (by rfl) mC.out.own _ _ _ _ (by rfl) (HSO.out _ mC.out.below).1 (by omega) mC.out.size ?_; intro v1 W2 hown1 hg1; have hb1 := grow_own mC.out.below mC.out.size mC.out.own hg1; have hs1 := Nat.le_trans mC.out.size hg1.size; have hc1 := HKC.out _ hb1)
                | (refine step_app (by rfl) (.tmp 35) (.tmp 40) (by rfl) X.heap.size v1 _ _ (by rfl) (hown1.alloc (.cells #[.int .u64 x] 23)) _ 1 1 [bitsR x] (by rfl) (src_one (heap_alloc_new W2 _)) (by omega) (show X.heap.size ≤ (W2.alloc (.cells #[.int .u64 x] 23)).heap.size from Nat.le_trans hs1 (by simp)) ?_; intro v2 W4 hown2 hg2; have hb2 := grow_own (hb1.alloc hs1 (.cells #[.int .u64 x] 23)) (show X.heap.size ≤ (W2.alloc (.cells #[.int .u64 x] 23)).heap.size from Nat.le_trans hs1 (by simp)) (hown1.alloc (.cells #[.int .u64 x] 23)) hg2; have hs2 := Nat.le_trans (show X.heap.size ≤ (W2.alloc (.cells #[.int .u64 x] 23)).heap.size from Nat.le_trans hs1 (by simp)) hg2.size; have hc2 := HKC.out _ hb2)
                | (refine step_app (by rfl) (.tmp 35) (.tmp 40) (by rfl) X.heap.size v1 _ _ (by rfl) (hown1) _ 1 1 [bitsR x] (by rfl) (src_one (one_B hg1)) (by omega) (hs1) ?_; intro v2 W4 hown2 hg2; have hb2 := grow_own (hb1) (hs1) (hown1) hg2; have hs2 := Nat.le_trans (hs1) hg2.size; have hc2 := HKC.out _ hb2)
                | (refine step_app (by rfl) (.tmp 35) (.tmp 40) (by rfl) X.heap.size v1 _ _ (by rfl) (hown1) _ 1 1 [bitsR x] (by rfl) (src_one (one_C hg1)) (by omega) (hs1) ?_; intro v2 W4 hown2 hg2; have hb2 := grow_own (hb1) (hs1) (hown1) hg2; have hs2 := Nat.le_trans (hs1) hg2.size; have hc2 := HKC.out _ hb2)
                | (refine step_app (by rfl) (.tmp 41) (.tmp 44) (by rfl) X.heap.size v2 _ _ (by rfl) hown2 _ _ _ _ (by rfl) (HSO.out _ hb2).2 (by omega) hs2 ?_; intro v3 W5 hown3 hg3; have hb3 := grow_own hb2 hs2 hown2 hg3; have hs3 := Nat.le_trans hs2 hg3.size; have hc3 := HKC.out _ hb3))
            all_goals
              go_wp2
              go_roundw
              case rel => exact ⟨i + 1, by omega, num_i (by omega), by rw [HINS.out]; exact own_end2 HBS.out HIN.out hown3, HBX.out.trans (below_down hb3 HBS.out)⟩
              case measure => simp [intOf]; omega
    · obtain rfl : i = n := by omega
      go_wp2
      go_ret
      rw [List.take_of_length_le (by rw [HX.out]; exact Nat.le_refl _)] at hown
      exact ⟨_, rfl, hown, hnx⟩
end Go.Proofs.YtdnifilmckialaaDoor
