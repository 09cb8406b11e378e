/- What of one set is in another one, and what is not: the program's part, Both, Less and Apart. -/
import Derived.Test.YtjpojidpmmodnaaQE
import Derived.Test.YtjpojidpmmodnaaPD
namespace Go.Proofs.Ytjpojidpmmodnaa
open Go.RowKit

theorem ret_vv {a b c d : Value} (h : a = c) (k : b = d) : Ending.returned (.tuple #[a, b]) = .returned (.tuple #[c, d]) := by rw [h, k]
set_option maxHeartbeats 8000000 in
theorem part_any (v u : Value) (xs ys : List Int) (w : World) (h : IsL w w.heap.size v xs) (hy : IsL w w.heap.size u ys) (hl : xs.length + ys.length ≤ 1000) (hix : Inc xs) (hiy : Inc ys) :
    Calls Try.prog 54 #[v, u] w fun e w' => ∃ a b, e = .returned (.tuple #[a, b]) ∧ IsL w' w'.heap.size a (xs.filter (fun y => decide (y ∈ ys))) ∧ IsL w' w'.heap.size b (xs.filter (fun y => !decide (y ∈ ys))) ∧ Below w.heap.size w w' := by
  obtain ⟨⟨A, cap, rfl, hcap, hA⟩, hfit, hlen⟩ := h
  obtain ⟨⟨A2, cap2, rfl, hcap2, hA2⟩, hfit2, hlen2⟩ := hy
  have HA := Lib.hid hA
  have HF := Lib.hid hfit
  have HA2 := Lib.hid hA2
  have HF2 := Lib.hid hfit2
  have HIX := Lib.hid hix
  have HIY := Lib.hid hiy
  clear hA hfit hA2 hfit2 hix hiy
  go_enter Try.func54, Try.ntmps54
  go_wp2
  go_step3
  go_wp2
  go_step3
  go_wp2
  go_loopw [4, 5, 6, 11] (fun t o q i wr => ∃ (k at' : Nat), k ≤ xs.length ∧ at' ≤ ys.length ∧ i = .int .i64 (k : Int) ∧ q = .int .i64 (at' : Int) ∧
    Own wr w.heap.size t ((xs.take k).filter (fun y => decide (y ∈ ys))) ∧ Own wr w.heap.size o ((xs.take k).filter (fun y => !decide (y ∈ ys))) ∧ Off2 t o ∧ Below w.heap.size w wr ∧ PInv xs ys k at') (fun _ _ _ i _ => xs.length - (intOf i).toNat)
  case atStart => exact ⟨0, 0, Nat.zero_le _, Nat.zero_le _, rfl, rfl, by simp; exact Own.nil _ _, by simp; exact Own.nil _ _, fun k hk => by simp [Value.ownBlock] at hk, Below.refl _ _, PInv.start _ _⟩
  case round =>
    obtain ⟨k, at', hk, hat, rfl, rfl, hin, hout, hoff, hbel, hinv⟩ := hrel
    have HI := Lib.hid hin
    have HO := Lib.hid hout
    have HOF := Lib.hid hoff
    have HL := Lib.hid hbel
    have hle : (xs.take k).length ≤ 1000 := by rw [List.length_take]; omega
    have HLI := Lib.hid (Nat.le_trans (List.length_filter_le (fun y => decide (y ∈ ys)) (xs.take k)) hle)
    have HLO := Lib.hid (Nat.le_trans (List.length_filter_le (fun y => !decide (y ∈ ys)) (xs.take k)) hle)
    clear hle
    by_cases hlt : k < xs.length
    · obtain ⟨b, off, rfl, hbB, hcell⟩ := HA.out (by omega)
      have hx : wr.cell? ⟨b, off + k, none⟩ = some (.int .i64 (xs.getD k 0)) := (hbel.cell (p := ⟨b, off + k, none⟩) hbB).trans (hcell k hlt)
      have HFX := Lib.hid (getD_fits HF.out k)
      have HTI := Lib.hid (show (xs.take (k + 1)).filter (fun y => decide (y ∈ ys)) = (xs.take k).filter (fun y => decide (y ∈ ys)) ++ (if decide (xs.getD k 0 ∈ ys) then [xs.getD k 0] else []) by rw [take_getD xs k hlt, filter_snoc])
      have HTO := Lib.hid (show (xs.take (k + 1)).filter (fun y => !decide (y ∈ ys)) = (xs.take k).filter (fun y => !decide (y ∈ ys)) ++ (if !decide (xs.getD k 0 ∈ ys) then [xs.getD k 0] else []) by rw [take_getD xs k hlt, filter_snoc])
      have HEN := Lib.hid (hinv.enter hlt)
      have HLV := Lib.hid (fun (t : Nat) (hp : Pass ys t (xs.getD k 0)) => hp.leave HIX.out hlt)
      clear hcell hin hout hoff hinv
      generalize xs.getD k 0 = n at *
      generalize (xs.take k).filter (fun y => decide (y ∈ ys)) = li at *
      generalize (xs.take k).filter (fun y => !decide (y ∈ ys)) = lo at *
      have hcy : ∀ at' : Nat, at' < ys.length → ∃ b2 off2, A2 = some ⟨b2, off2, none⟩ ∧ wr.cell? ⟨b2, off2 + at', none⟩ = some (.int .i64 (ys.getD at' 0)) := fun at' ht => by
        obtain ⟨b2, off2, e, hbB2, hcell2⟩ := HA2.out (by omega)
        exact ⟨b2, off2, e, (hbel.cell (p := ⟨b2, off2 + at', none⟩) hbB2).trans (hcell2 at' ht)⟩
      have HCY := Lib.hid hcy
      clear hcy hbel
      obtain ⟨wo, hwo⟩ : ∃ wo, wo = wr := ⟨_, rfl⟩
      subst hwo
      go_wp2
      obtain ⟨tv, rfl⟩ : ∃ tv, tv = u4 := ⟨_, rfl⟩
      go_loop [4, 6] (fun t q => t = tv ∧ ∃ (at' : Nat), at' ≤ ys.length ∧ q = .int .i64 (at' : Int) ∧ Pass ys at' n) (fun _ q => ys.length - (intOf q).toNat)
      case atStart => exact ⟨rfl, at', hat, rfl, HEN.out⟩
      case round =>
        clear HEN hx
        obtain ⟨rfl, at', hat, rfl, hps⟩ := hrel
        have HP := Lib.hid hps
        by_cases ht : at' < ys.length
        · obtain ⟨b2, off2, rfl, hx2⟩ := HCY.out at' ht
          have HST := Lib.hid (fun h => hps.step ht h)
          have HMM := Lib.hid (fun h : ys.getD at' 0 = n => show n ∈ ys by rw [← h]; exact getD_mem ys at' ht)
          have HNM := Lib.hid (fun h : n < ys.getD at' 0 => hps.not_mem HIY.out (fun _ => h))
          clear hps HCY
          generalize ys.getD at' 0 = y at *
          by_cases h1 : y < n
          · have h1' : y ≤ n := by omega
            have hbq : (y == n) = false := by rw [beq_eq_false_iff_ne]; omega
            have HS2 := Lib.hid (HST.out h1)
            go_wp2
            go_round
            case rel => exact ⟨rfl, at' + 1, by omega, num_i (by omega), HS2.out⟩
            case measure => simp [intOf]; omega
          · by_cases h2 : y = n
            · have h2' : y ≤ n := by omega
              have hbq : (y == n) = true := by rw [beq_iff_eq]; exact h2
              have HM := Lib.hid (decide_eq_true (HMM.out h2))
              clear h2 h1
              go_wp2_with (at_builtin; refine wpList_app _ rfl _ _ rfl w.heap.size (wo.heap.size + 1) _ _ li [n] rfl rfl (HI.out.alloc _) (IsL.lit wo n HFX.out) ?c1 ?c2 ?_)
              case c1 => have := HLI.out; simp; omega
              case c2 => have := HL.out.size; simp; omega
              intro v1 w1 hown hgrow hat2
              have hb1 := Own.grow' (HI.out.alloc (.cells #[.int .i64 n] 3)) (HL.out.alloc HL.out.size _) (by have := HL.out.size; simp; omega) hgrow
              have h3 := (HO.out.alloc (.cells #[.int .i64 n] 3)).apart HOF.out hgrow
              have h4 := (HOF.out.grown (HO.out.alloc (.cells #[.int .i64 n] 3)) (by rw [size_alloc]; exact hat2))
              have H1 := Lib.hid hown
              have H2 := Lib.hid hb1
              have H3 := Lib.hid h3
              have H4 := Lib.hid h4
              clear hown hgrow hb1 h3 h4 hat2
              go_wp2
              go_roundw
              case rel => exact ⟨k + 1, at', by omega, by omega, num_i (by omega), rfl, by rw [HTI.out, HM.out]; exact H1.out, by rw [HTO.out, HM.out]; simpa using H3.out, H4.out, H2.out, HLV.out at' HP.out⟩
              case measure => simp [intOf]; omega
            · have h3 : n < y := by omega
              have HM := Lib.hid (decide_eq_false (HNM.out h3))
              clear h2 h1
              go_wp2_with (at_builtin; refine wpList_app _ rfl _ _ rfl w.heap.size (wo.heap.size + 1) _ _ lo [n] rfl rfl (HO.out.alloc _) (IsL.lit wo n HFX.out) ?c1 ?c2 ?_)
              case c1 => have := HLO.out; simp; omega
              case c2 => have := HL.out.size; simp; omega
              intro v1 w1 hown hgrow hat2
              have hb1 := Own.grow' (HO.out.alloc (.cells #[.int .i64 n] 3)) (HL.out.alloc HL.out.size _) (by have := HL.out.size; simp; omega) hgrow
              have h3 := (HI.out.alloc (.cells #[.int .i64 n] 3)).apart HOF.out.symm hgrow
              have h4 := (HOF.out.symm.grown (HI.out.alloc (.cells #[.int .i64 n] 3)) (by rw [size_alloc]; exact hat2)).symm
              have H1 := Lib.hid hown
              have H2 := Lib.hid hb1
              have H3 := Lib.hid h3
              have H4 := Lib.hid h4
              clear hown hgrow hb1 h3 h4 hat2
              go_wp2
              go_roundw
              case rel => exact ⟨k + 1, at', by omega, by omega, num_i (by omega), rfl, by rw [HTI.out, HM.out]; simpa using H3.out, by rw [HTO.out, HM.out]; exact H1.out, H4.out, H2.out, HLV.out at' HP.out⟩
              case measure => simp [intOf]; omega
        · have HM := Lib.hid (decide_eq_false (hps.not_mem HIY.out (fun h => absurd h ht)))
          clear hps HCY
          go_wp2_with (at_builtin; refine wpList_app _ rfl _ _ rfl w.heap.size (wo.heap.size + 1) _ _ lo [n] rfl rfl (HO.out.alloc _) (IsL.lit wo n HFX.out) ?c1 ?c2 ?_)
          case c1 => have := HLO.out; simp; omega
          case c2 => have := HL.out.size; simp; omega
          intro v1 w1 hown hgrow hat2
          have hb1 := Own.grow' (HO.out.alloc (.cells #[.int .i64 n] 3)) (HL.out.alloc HL.out.size _) (by have := HL.out.size; simp; omega) hgrow
          have h3 := (HI.out.alloc (.cells #[.int .i64 n] 3)).apart HOF.out.symm hgrow
          have h4 := (HOF.out.symm.grown (HI.out.alloc (.cells #[.int .i64 n] 3)) (by rw [size_alloc]; exact hat2)).symm
          have H1 := Lib.hid hown
          have H2 := Lib.hid hb1
          have H3 := Lib.hid h3
          have H4 := Lib.hid h4
          clear hown hgrow hb1 h3 h4 hat2
          go_wp2
          go_roundw
          case rel => exact ⟨k + 1, at', by omega, by omega, num_i (by omega), rfl, by rw [HTI.out, HM.out]; simpa using H3.out, by rw [HTO.out, HM.out]; exact H1.out, H4.out, H2.out, HLV.out at' HP.out⟩
          case measure => simp [intOf]; omega
    · obtain rfl : k = xs.length := by omega
      rw [List.take_length] at *
      have HR1 := Lib.hid (HI.out.isL (by have := HLI.out; omega))
      have HR2 := Lib.hid (HO.out.isL (by have := HLO.out; omega))
      clear hin hout hoff hbel hinv
      go_wp2
      rw [Exit.noGoto_ret]
      go_ret2
      exact ⟨_, _, rfl, HR1.out, HR2.out, HL.out⟩

set_option maxHeartbeats 1000000 in
theorem both_any (v u : Value) (xs ys : List Int) (w : World) (h : IsL w w.heap.size v xs) (hy : IsL w w.heap.size u ys) (hl : xs.length + ys.length ≤ 1000) (hix : Inc xs) (hiy : Inc ys) :
    Calls Try.prog 42 #[v, u] w fun e w' => ∃ v, e = .returned v ∧ IsL w' w'.heap.size v (xs.filter (fun y => decide (y ∈ ys))) ∧ Below w.heap.size w w' := by
  have HP := Lib.hid (part_any v u xs ys w h hy hl hix hiy)
  clear h hy
  go_enter Try.func42, Try.ntmps42
  go_wp2_with (go_at_call 54; refine (HP.out).mono ?_; rintro e w1 ⟨a, b, rfl, h1, h2, h3⟩)
  go_ret
  exact ⟨_, rfl, h1, h3⟩
set_option maxHeartbeats 1000000 in
theorem less_any (v u : Value) (xs ys : List Int) (w : World) (h : IsL w w.heap.size v xs) (hy : IsL w w.heap.size u ys) (hl : xs.length + ys.length ≤ 1000) (hix : Inc xs) (hiy : Inc ys) :
    Calls Try.prog 44 #[v, u] w fun e w' => ∃ v, e = .returned v ∧ IsL w' w'.heap.size v (xs.filter (fun y => !decide (y ∈ ys))) ∧ Below w.heap.size w w' := by
  have HP := Lib.hid (part_any v u xs ys w h hy hl hix hiy)
  clear h hy
  go_enter Try.func44, Try.ntmps44
  go_wp2_with (go_at_call 54; refine (HP.out).mono ?_; rintro e w1 ⟨a, b, rfl, h1, h2, h3⟩)
  go_ret
  exact ⟨_, rfl, h2, h3⟩
set_option maxHeartbeats 1000000 in
theorem apart_any (v u : Value) (xs ys : List Int) (w : World) (h : IsL w w.heap.size v xs) (hy : IsL w w.heap.size u ys) (hl : xs.length + ys.length ≤ 1000) (hix : Inc xs) (hiy : Inc ys) :
    Calls Try.prog 46 #[v, u] w fun e w' => e = .returned (.bool (decide (xs.filter (fun y => decide (y ∈ ys)) = []))) ∧ Below w.heap.size w w' := by
  have HP := Lib.hid (both_any v u xs ys w h hy hl hix hiy)
  clear h hy
  generalize xs.filter (fun y => decide (y ∈ ys)) = l at *
  go_enter Try.func46, Try.ntmps46
  go_wp2_with fail
  refine (HP.out).mono ?_
  rintro e w1 ⟨a, rfl, h1, h3⟩
  obtain ⟨⟨A, cap, rfl, _, _⟩, _, _⟩ := h1
  have H3 := Lib.hid h3
  clear h3
  go_wp2
  go_ret
  refine ⟨ret_b ?_, H3.out⟩
  match l with
  | [] => rfl
  | x :: r => simp; omega
end Go.Proofs.Ytjpojidpmmodnaa
