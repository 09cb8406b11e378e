/- Lists looked at: the reference's Right, Same and Twice, and the program's Has. -/
import Derived.Test.YtjpojidpmmodnaaQA
namespace Go.Proofs.Ytjpojidpmmodnaa
open Go.RowKit

set_option maxHeartbeats 1000000 in
theorem rright_any (v : Value) (xs : List Int) (w : World) (h : IsL w w.heap.size v xs) : Calls Try.prog 35 #[v] w fun e w' => e = .returned (.bool (decide (Inc xs))) ∧ ∃ d, w' = w.drewN d := by
  obtain ⟨⟨A, cap, rfl, hcap, hA⟩, hfit, hlen⟩ := h
  have HA := Lib.hid hA
  clear hA hfit
  go_enter Try.func35, Try.ntmps35
  go_wp2
  go_loopw [3] (fun i wr => ∃ j d : Nat, (j + 1 ≤ xs.length ∨ j = 0) ∧ Inc (xs.take (j + 1)) ∧ i = .int .i64 ((j : Int) + 1) ∧ wr = w.drewN d) (fun i _ => xs.length - (intOf i).toNat)
  case atStart =>
    refine ⟨0, 0, Or.inr rfl, ?_, rfl, rfl⟩
    match xs with
    | [] => exact inc_nil
    | x :: r => exact List.pairwise_singleton _ _
  case round =>
    obtain ⟨j, d, hj, hinc, rfl, hw⟩ := hrel
    have HI := Lib.hid hinc
    have HW := Lib.hid hw
    clear hinc
    by_cases hlt : j + 1 < xs.length
    · obtain ⟨b, off, rfl, hb, hcell⟩ := HA.out (by omega)
      have hx : wr.cell? ⟨b, off + j, none⟩ = some (.int .i64 (xs.getD j 0)) := by rw [hw]; exact hcell j (by omega)
      have hy : wr.cell? ⟨b, off + (j + 1), none⟩ = some (.int .i64 (xs.getD (j + 1) 0)) := by rw [hw]; exact hcell (j + 1) (by omega)
      have HNX := Lib.hid (inc_next (l := xs) j hlt)
      have HNG := Lib.hid (fun hi : Inc xs => inc_getD hi j (j + 1) (by omega) hlt)
      clear hcell hw
      generalize xs.getD j 0 = x at *
      generalize xs.getD (j + 1) 0 = y at *
      by_cases hxy : y ≤ x
      · have HX := Lib.hid hxy
        go_wp2
        go_quiet (fail)
        go_wp2
        go_ret
        refine ⟨ret_b ?_, by rw [HW.out]; exact ⟨_, World.drewN_drewN _ _ _⟩⟩
        rw [decide_eq_false]
        intro hi
        have := HNG.out hi
        have := HX.out
        omega
      · have HX := Lib.hid hxy
        go_wp2
        go_quiet (fail)
        go_wp2
        go_roundw
        case rel => exact ⟨j + 1, _, Or.inl (by omega), HNX.out HI.out (by have := HX.out; omega), num_i (by omega), by rw [HW.out]; exact World.drewN_drewN _ _ _⟩
        case measure => simp [intOf]; omega
    · have e := HI.out
      rw [List.take_of_length_le (by omega)] at e
      have HE := Lib.hid (decide_eq_true e)
      clear e hw
      go_wp2
      go_ret
      exact ⟨ret_b HE.out.symm, d, HW.out⟩

set_option maxHeartbeats 1000000 in
theorem same_any (v u : Value) (xs ys : List Int) (w : World) (h : IsL w w.heap.size v xs) (hy : IsL w w.heap.size u ys) : Calls Try.prog 32 #[v, u] w fun e w' => e = .returned (.bool (decide (xs = ys))) ∧ ∃ d, w' = w.drewN d := by
  obtain ⟨⟨A, cap, rfl, hcap, hA⟩, hfit, hlen⟩ := h
  obtain ⟨⟨A2, cap2, rfl, hcap2, hA2⟩, hfit2, hlen2⟩ := hy
  have HA := Lib.hid hA
  have HA2 := Lib.hid hA2
  clear hA hfit hA2 hfit2
  by_cases hl : xs.length = ys.length
  · rw [← hl] at HA2 ⊢
    have HL := Lib.hid hl
    clear hl
    go_enter Try.func32, Try.ntmps32
    go_wp2
    go_loopw [5] (fun i wr => ∃ k d : Nat, k ≤ xs.length ∧ xs.take k = ys.take k ∧ i = .int .i64 (k : Int) ∧ wr = w.drewN d) (fun i _ => xs.length - (intOf i).toNat)
    case atStart => exact ⟨0, 0, Nat.zero_le _, rfl, rfl, rfl⟩
    case round =>
      obtain ⟨k, d, hk, hsame, rfl, hw⟩ := hrel
      have HS := Lib.hid hsame
      have HW := Lib.hid hw
      clear hsame
      by_cases hlt : k < xs.length
      · obtain ⟨b, off, rfl, hb, hcell⟩ := HA.out (by omega)
        obtain ⟨b2, off2, rfl, hb2, hcell2⟩ := HA2.out (by omega)
        have hx : wr.cell? ⟨b, off + k, none⟩ = some (.int .i64 (xs.getD k 0)) := by rw [hw]; exact hcell k hlt
        have hy : wr.cell? ⟨b2, off2 + k, none⟩ = some (.int .i64 (ys.getD k 0)) := by rw [hw]; exact hcell2 k hlt
        have HT := Lib.hid (take_getD xs k hlt)
        have HT2 := Lib.hid (take_getD ys k (by have := HL.out; omega))
        have HXY := Lib.hid (fun e : xs = ys => show xs.getD k 0 = ys.getD k 0 by rw [e])
        clear hcell hcell2 hw
        generalize xs.getD k 0 = x at *
        generalize ys.getD k 0 = y at *
        by_cases hxy : x = y
        · subst hxy
          go_wp2
          go_quiet (fail)
          go_wp2
          go_roundw
          case rel => exact ⟨k + 1, _, by omega, by rw [HT.out, HT2.out, HS.out], num_i (by omega), by rw [HW.out]; exact World.drewN_drewN _ _ _⟩
          case measure => simp [intOf]; omega
        · have hbq : (x != y) = true := by rw [bne_iff_ne]; exact hxy
          have HX := Lib.hid hxy
          clear hxy
          go_wp2
          go_quiet (fail)
          go_wp2
          go_ret
          refine ⟨ret_b ?_, by rw [HW.out]; exact ⟨_, World.drewN_drewN _ _ _⟩⟩
          rw [decide_eq_false]
          exact fun e => HX.out (HXY.out e)
      · obtain rfl : k = xs.length := by omega
        have e := HS.out
        rw [List.take_length, List.take_of_length_le (by have := HL.out; omega)] at e
        have HE := Lib.hid (decide_eq_true e)
        clear e hw
        go_wp2
        go_ret
        exact ⟨ret_b HE.out.symm, d, HW.out⟩
  · have hbq : ((xs.length : Int) != (ys.length : Int)) = true := by rw [bne_iff_ne]; omega
    have HL := Lib.hid hl
    clear hl
    go_enter Try.func32, Try.ntmps32
    go_wp2
    go_ret
    refine ⟨ret_b ?_, 0, by trivial⟩
    rw [decide_eq_false]
    intro e
    exact HL.out (by rw [e])

set_option maxHeartbeats 1000000 in
theorem rtwice_any (v : Value) (xs : List Int) (w : World) (h : IsL w w.heap.size v xs) : Calls Try.prog 37 #[v] w fun e w' => (∃ t, e = .returned (.int .i64 t) ∧ Tw xs t) ∧ ∃ d, w' = w.drewN d := by
  have HV := Lib.hid h
  obtain ⟨⟨A, cap, rfl, hcap, hA⟩, hfit, hlen⟩ := h
  have HA := Lib.hid hA
  have HF := Lib.hid hfit
  clear hA hfit
  go_enter Try.func37, Try.ntmps37
  go_wp2
  go_loopw [3] (fun i wr => ∃ k d : Nat, k ≤ xs.length ∧ (∀ j, j < k → xs.getD j 0 ∉ xs.take j) ∧ i = .int .i64 (k : Int) ∧ wr = w.drewN d) (fun i _ => xs.length - (intOf i).toNat)
  case atStart => exact ⟨0, 0, Nat.zero_le _, fun j hj => absurd hj (by omega), rfl, rfl⟩
  case round =>
    obtain ⟨k, d, hk, hno, rfl, hw⟩ := hrel
    have HN := Lib.hid hno
    have HW := Lib.hid hw
    clear hno
    by_cases hlt : k < xs.length
    · obtain ⟨b, off, rfl, hb, hcell⟩ := HA.out (by omega)
      have hx : wr.cell? ⟨b, off + k, none⟩ = some (.int .i64 (xs.getD k 0)) := by rw [hw]; exact hcell k hlt
      have hsub : IsL wr wr.heap.size (.slice (some ⟨b, off, none⟩) k cap) (xs.take k) := by
        rw [hw]
        exact IsL.takeLit hb hcell HF.out k hk (by omega) hlen
      have HS := Lib.hid hsub
      clear hcell hw hsub
      have i1 : (0 : Int) ≤ (k : Int) := by omega
      have i2 : (k : Int) < (xs.length : Int) := by omega
      have i3 : (k : Int) ≤ (cap : Int) := by omega
      by_cases hm : xs.getD k 0 ∈ xs.take k
      · have HM := Lib.hid hm
        have hd : decide (xs.getD k 0 ∈ xs.take k) = true := decide_eq_true hm
        have hin : ∀ (n : Int) (d : Nat), n = xs.getD k 0 → Calls Try.prog 39 #[.slice (some ⟨b, off, none⟩) k cap, .int .i64 n] (wr.drewN d) fun e w' => e = .returned (.bool true) ∧ w' = wr.drewN d := fun n d hn => by
          subst hn
          rw [← hd]
          exact (in_any _ (xs.take k) _ (wr.drewN d) HS.out).mono fun _ _ ⟨he, hw⟩ => ⟨he, hw.symm⟩
        have HIN := Lib.hid hin
        have HX := Lib.hid (rfl : xs.getD k 0 = xs.getD k 0)
        clear hm hd hin
        generalize hxx : xs.getD k 0 = x at *
        have HXX := Lib.hid hxx
        clear hxx
        go_wp2
        go_quiet ((go_at_call 39; exact Calls.quiet_of_same (HIN.out x _ rfl)))
        go_wp2
        go_ret
        exact ⟨⟨_, rfl, Or.inr ⟨k, hlt, rfl, by rw [HXX.out]; exact HM.out, HN.out⟩⟩, by rw [HW.out]; exact ⟨_, World.drewN_drewN _ _ _⟩⟩
      · have HM := Lib.hid hm
        have hd : decide (xs.getD k 0 ∈ xs.take k) = false := decide_eq_false hm
        have hin : ∀ (n : Int) (d : Nat), n = xs.getD k 0 → Calls Try.prog 39 #[.slice (some ⟨b, off, none⟩) k cap, .int .i64 n] (wr.drewN d) fun e w' => e = .returned (.bool false) ∧ w' = wr.drewN d := fun n d hn => by
          subst hn
          rw [← hd]
          exact (in_any _ (xs.take k) _ (wr.drewN d) HS.out).mono fun _ _ ⟨he, hw⟩ => ⟨he, hw.symm⟩
        have HIN := Lib.hid hin
        clear hm hd hin
        generalize hxx : xs.getD k 0 = x at *
        have HXX := Lib.hid hxx
        clear hxx
        go_wp2
        go_quiet ((go_at_call 39; exact Calls.quiet_of_same (HIN.out x _ rfl)))
        go_wp2
        go_roundw
        case rel =>
          refine ⟨k + 1, _, by omega, fun j hj => ?_, num_i (by omega), by rw [HW.out]; exact World.drewN_drewN _ _ _⟩
          rcases Nat.lt_or_ge j k with h | h
          · exact HN.out j h
          · obtain rfl : j = k := by omega
            rw [HXX.out]
            exact HM.out
        case measure => simp [intOf]; omega
    · obtain rfl : k = xs.length := by omega
      clear hw
      go_wp2
      go_ret
      exact ⟨⟨_, rfl, Or.inl ⟨rfl, HN.out⟩⟩, d, HW.out⟩
/-- Where a number lies in a rising list. -/
theorem has_low {l : List Int} {n : Int} (h : Inc l) (k : Nat) (hk : k < l.length) (hx : l.getD k 0 < n) : n ∈ l ↔ n ∈ l.drop (k + 1) := by
  constructor
  · intro hn
    have e : l = l.take (k + 1) ++ l.drop (k + 1) := (List.take_append_drop _ _).symm
    rw [e] at hn
    rcases List.mem_append.1 hn with hn | hn
    · rw [take_getD l k hk] at hn
      rcases List.mem_append.1 hn with hn | hn
      · have h2 := inc_take (k + 1) h
        rw [take_getD l k hk] at h2
        have := (inc_append.1 h2).2.2 n hn (l.getD k 0) (by simp)
        omega
      · have : n = l.getD k 0 := by simpa using hn
        omega
    · exact hn
  · exact List.mem_of_mem_drop
theorem has_high {l : List Int} {n : Int} (h : Inc l) (k : Nat) (hk : k < l.length) (hx : n < l.getD k 0) : n ∈ l ↔ n ∈ l.take k := by
  constructor
  · intro hn
    have e : l = l.take k ++ l.drop k := (List.take_append_drop _ _).symm
    rw [e] at hn
    rcases List.mem_append.1 hn with hn | hn
    · exact hn
    · have e2 : l.drop k = l.getD k 0 :: l.drop (k + 1) := by
        rw [List.drop_eq_getElem_cons hk, List.getD_eq_getElem?_getD, List.getElem?_eq_getElem hk]
        rfl
      have h2 := inc_drop k h
      rw [e2] at hn h2
      rcases List.mem_cons.1 hn with hn | hn
      · omega
      · have := (inc_cons.1 h2).1 n hn
        omega
  · exact List.mem_of_mem_take
theorem IsL.dropIf {w : World} {B b off cap : Nat} {xs : List Int} (hb : b < B) (hc : ∀ i, i < xs.length → w.cell? ⟨b, off + i, none⟩ = some (.int .i64 (xs.getD i 0))) (hf : ∀ x ∈ xs, fits x) (k : Nat) (hk : k ≤ xs.length) (hcap : xs.length ≤ cap) (hl : xs.length ≤ 9223372036854775807) :
    IsL w B (.slice (if cap = k then some ⟨b, off, none⟩ else some ⟨b, off + k, none⟩) (xs.length - k) (cap - k)) (xs.drop k) := by
  have h := IsL.dropLit hb hc hf k hk hcap hl
  by_cases e : cap = k
  · rw [if_pos e]; exact h.1 e
  · rw [if_neg e]; exact h.2
set_option maxHeartbeats 1000000 in
theorem has_any (v : Value) (xs : List Int) (n : Int) (w : World) (h : IsL w w.heap.size v xs) (hi : Inc xs) : Calls Try.prog 38 #[v, .int .i64 n] w fun e w' => e = .returned (.bool (decide (n ∈ xs))) ∧ w = w' := by
  have HV := Lib.hid h
  have HI := Lib.hid hi
  clear h hi
  go_enter Try.func38, Try.ntmps38
  go_wp2
  go_loop [0] (fun v => ∃ ys, IsL w w.heap.size v ys ∧ Inc ys ∧ (n ∈ xs ↔ n ∈ ys)) (fun v => (match v with | .slice _ k _ => k | _ => 0))
  case atStart => exact ⟨xs, HV.out, HI.out, Iff.rfl⟩
  case round =>
    obtain ⟨ys, hys, hinc, hiff⟩ := hrel
    obtain ⟨⟨A, cap, rfl, hcap, hA⟩, hfit, hlen⟩ := hys
    have HA := Lib.hid hA
    have HF := Lib.hid hfit
    have HC := Lib.hid hinc
    have HX := Lib.hid hiff
    clear hA hfit hinc hiff
    by_cases h0 : 0 < ys.length
    · obtain ⟨b, off, rfl, hb, hcell⟩ := HA.out h0
      have hx := hcell (ys.length / 2) (by omega)
      have HL := Lib.hid (has_low (n := n) HC.out (ys.length / 2) (by omega))
      have HH := Lib.hid (has_high (n := n) HC.out (ys.length / 2) (by omega))
      have HM := Lib.hid (getD_mem ys (ys.length / 2) (by omega))
      have HT := Lib.hid (IsL.takeLit (cap := cap) hb hcell HF.out (ys.length / 2) (by omega) (by omega) hlen)
      have HD := Lib.hid (IsL.dropIf (cap := cap) hb hcell HF.out (ys.length / 2 + 1) (by omega) (by omega) hlen)
      clear hcell
      generalize ys.getD (ys.length / 2) 0 = x at *
      by_cases h1 : x < n
      · go_wp2
        go_round
        case rel => exact ⟨_, HD.out, inc_drop _ HC.out, HX.out.trans (HL.out h1)⟩
        case measure => simp; omega
      · by_cases h2 : n < x
        · go_wp2
          go_round
          case rel => exact ⟨_, HT.out, inc_take _ HC.out, HX.out.trans (HH.out h2)⟩
          case measure => simp; omega
        · have e : n = x := by omega
          have HE := Lib.hid e
          go_wp2
          go_ret
          refine ⟨ret_b ?_, rfl⟩
          have k : n ∈ xs := HX.out.2 (HE.out ▸ HM.out)
          first
            | rw [decide_eq_true k]
            | rw [← HE.out, decide_eq_true k]
    · have e : ys = [] := List.eq_nil_of_length_eq_zero (by omega)
      have hz : ys.length = 0 := by omega
      have hnx : decide (n ∈ xs) = false := decide_eq_false (fun k => by have := HX.out.1 k; rw [e] at this; simp at this)
      have HNX := Lib.hid hnx
      clear hnx e
      rw [hz]
      go_wp2
      go_ret
      exact ⟨ret_b HNX.out.symm, rfl⟩
end Go.Proofs.Ytjpojidpmmodnaa
