/- Lists looked at: is a number in one, does one rise, are two the same. -/
import Derived.Test.YtjpojidpmmodnaaLO
import Derived.Test.YtjpojidpmmodnaaQM
import Derived.Deep.QuietTactic
import Derived.BigQuiet
namespace Go.Proofs.Ytjpojidpmmodnaa
open Go.RowKit

theorem take_getD (l : List Int) (k : Nat) (h : k < l.length) : l.take (k + 1) = l.take k ++ [l.getD k 0] := by
  rw [List.take_succ_eq_append_getElem h, List.getD_eq_getElem?_getD, List.getElem?_eq_getElem h]
  rfl
theorem getD_mem (l : List Int) (k : Nat) (h : k < l.length) : l.getD k 0 ∈ l := by
  rw [List.getD_eq_getElem?_getD, List.getElem?_eq_getElem h]
  exact List.getElem_mem h
theorem inc_getD {l : List Int} (h : Inc l) (i j : Nat) (hij : i < j) (hj : j < l.length) : l.getD i 0 < l.getD j 0 := by
  rw [List.getD_eq_getElem?_getD, List.getD_eq_getElem?_getD, List.getElem?_eq_getElem hj, List.getElem?_eq_getElem (by omega)]
  exact List.pairwise_iff_getElem.1 h i j (by omega) hj hij
theorem inc_next {l : List Int} (k : Nat) (hk : k + 1 < l.length) (h : Inc (l.take (k + 1))) (hx : l.getD k 0 < l.getD (k + 1) 0) : Inc (l.take (k + 2)) := by
  rw [take_getD l (k + 1) hk]
  refine inc_snoc h fun y hy => ?_
  rw [take_getD l k (by omega)] at h hy
  rcases List.mem_append.1 hy with hy | hy
  · have := (inc_append.1 h).2.2 y hy (l.getD k 0) (by simp)
    omega
  · have : y = l.getD k 0 := by simpa using hy
    omega
theorem IsL.takeLit {w : World} {B b off cap : Nat} {xs : List Int} (hb : b < B) (hc : ∀ i, i < xs.length → w.cell? ⟨b, off + i, none⟩ = some (.int .i64 (xs.getD i 0))) (hf : ∀ x ∈ xs, fits x) (k : Nat) (hk : k ≤ xs.length) (hcap : k ≤ cap) (hl : xs.length ≤ 9223372036854775807) :
    IsL w B (.slice (some ⟨b, off, none⟩) k cap) (xs.take k) := by
  have e : (xs.take k).length = k := by rw [List.length_take]; omega
  refine ⟨⟨_, cap, by rw [e], by omega, fun _ => ⟨b, off, rfl, hb, fun i hi => ?_⟩⟩, fun x hx => hf x (List.mem_of_mem_take hx), by omega⟩
  rw [e] at hi
  rw [hc i (by omega), List.getD_eq_getElem?_getD, List.getD_eq_getElem?_getD, List.getElem?_take, if_pos hi]
theorem IsL.dropLit {w : World} {B b off cap : Nat} {xs : List Int} (hb : b < B) (hc : ∀ i, i < xs.length → w.cell? ⟨b, off + i, none⟩ = some (.int .i64 (xs.getD i 0))) (hf : ∀ x ∈ xs, fits x) (k : Nat) (hk : k ≤ xs.length) (hcap : xs.length ≤ cap) (hl : xs.length ≤ 9223372036854775807) :
    (cap = k → IsL w B (.slice (some ⟨b, off, none⟩) (xs.length - k) (cap - k)) (xs.drop k)) ∧ IsL w B (.slice (some ⟨b, off + k, none⟩) (xs.length - k) (cap - k)) (xs.drop k) := by
  have e : (xs.drop k).length = xs.length - k := List.length_drop
  refine ⟨fun h => ⟨⟨_, cap - k, by rw [e], by omega, fun h0 => by omega⟩, fun x hx => hf x (List.mem_of_mem_drop hx), by omega⟩, ⟨⟨_, cap - k, by rw [e], by omega, fun _ => ⟨b, off + k, rfl, hb, fun i hi => ?_⟩⟩, fun x hx => hf x (List.mem_of_mem_drop hx), by omega⟩⟩
  rw [show off + k + i = off + (k + i) by omega, hc (k + i) (by omega), List.getD_eq_getElem?_getD, List.getD_eq_getElem?_getD, List.getElem?_drop]

set_option maxHeartbeats 1000000 in
theorem in_any (v : Value) (xs : List Int) (n : Int) (w : World) (h : IsL w w.heap.size v xs) : Calls Try.prog 39 #[v, .int .i64 n] w fun e w' => e = .returned (.bool (decide (n ∈ xs))) ∧ w = w' := by
  obtain ⟨⟨A, cap, rfl, hcap, hA⟩, hfit, hlen⟩ := h
  have HA := Lib.hid hA
  clear hA hfit
  go_enter Try.func39, Try.ntmps39
  go_wp2
  go_loop [5] (fun i => ∃ k : Nat, k ≤ xs.length ∧ n ∉ xs.take k ∧ i = .int .i64 (k : Int)) (fun i => xs.length - (intOf i).toNat)
  case atStart => exact ⟨0, Nat.zero_le _, by simp, rfl⟩
  case round =>
    obtain ⟨k, hk, hni, rfl⟩ := hrel
    have HN := Lib.hid hni
    clear hni
    by_cases hlt : k < xs.length
    · obtain ⟨b, off, rfl, hb, hcell⟩ := HA.out (by omega)
      have hx := hcell k hlt
      have HTK := Lib.hid (take_getD xs k hlt)
      have HM := Lib.hid (getD_mem xs k hlt)
      clear hcell
      generalize xs.getD k 0 = x at *
      by_cases hxn : x = n
      · have hbq : (x == n) = true := by rw [beq_iff_eq]; exact hxn
        have HX := Lib.hid hxn
        clear hxn
        go_wp2
        go_ret
        have e := HX.out
        have m := HM.out
        exact ⟨ret_b (by rw [decide_eq_true (e ▸ m)]), rfl⟩
      · have hbq : (x == n) = false := by rw [beq_eq_false_iff_ne]; exact hxn
        have HX := Lib.hid hxn
        clear hxn
        go_wp2
        go_round
        case rel =>
          refine ⟨k + 1, by omega, ?_, num_i (by omega)⟩
          rw [HTK.out, List.mem_append]
          intro hh
          rcases hh with hh | hh
          · exact HN.out hh
          · simp at hh; exact HX.out hh.symm
        case measure => simp [intOf]; omega
    · obtain rfl : k = xs.length := by omega
      go_wp2
      go_ret
      have e := HN.out
      rw [List.take_length] at e
      exact ⟨ret_b (by rw [decide_eq_false e]), rfl⟩

set_option maxHeartbeats 1000000 in
theorem right_any (v : Value) (xs : List Int) (w : World) (h : IsL w w.heap.size v xs) : Calls Try.prog 34 #[v] w fun e w' => e = .returned (.bool (decide (Inc xs))) ∧ ∃ d, w' = w.drewN d := by
  obtain ⟨⟨A, cap, rfl, hcap, hA⟩, hfit, hlen⟩ := h
  have HA := Lib.hid hA
  clear hA hfit
  go_enter Try.func34, Try.ntmps34
  go_wp2
  go_loopw [3] (fun i wr => ∃ j d : Nat, (j + 1 ≤ xs.length ∨ j = 0) ∧ Inc (xs.take (j + 1)) ∧ i = .int .i64 ((j : Int) + 1) ∧ wr = w.drewN d) (fun i _ => xs.length - (intOf i).toNat)
  case atStart =>
    refine ⟨0, 0, Or.inr rfl, ?_, rfl, rfl⟩
    match xs with
    | [] => exact inc_nil
    | x :: r => exact List.pairwise_singleton _ _
  case round =>
    obtain ⟨j, d, hj, hinc, rfl, hw⟩ := hrel
    have HI := Lib.hid hinc
    have HW := Lib.hid hw
    clear hinc
    by_cases hlt : j + 1 < xs.length
    · obtain ⟨b, off, rfl, hb, hcell⟩ := HA.out (by omega)
      have hx : wr.cell? ⟨b, off + j, none⟩ = some (.int .i64 (xs.getD j 0)) := by rw [hw]; exact hcell j (by omega)
      have hy : wr.cell? ⟨b, off + (j + 1), none⟩ = some (.int .i64 (xs.getD (j + 1) 0)) := by rw [hw]; exact hcell (j + 1) (by omega)
      have HNX := Lib.hid (inc_next (l := xs) j hlt)
      have HNG := Lib.hid (fun hi : Inc xs => inc_getD hi j (j + 1) (by omega) hlt)
      clear hcell hw
      generalize xs.getD j 0 = x at *
      generalize xs.getD (j + 1) 0 = y at *
      by_cases hxy : y ≤ x
      · have HX := Lib.hid hxy
        go_wp2
        go_quiet (fail)
        go_wp2
        go_ret
        refine ⟨ret_b ?_, by rw [HW.out]; exact ⟨_, World.drewN_drewN _ _ _⟩⟩
        rw [decide_eq_false]
        intro hi
        have := HNG.out hi
        have := HX.out
        omega
      · have HX := Lib.hid hxy
        go_wp2
        go_quiet (fail)
        go_wp2
        go_roundw
        case rel => exact ⟨j + 1, _, Or.inl (by omega), HNX.out HI.out (by have := HX.out; omega), num_i (by omega), by rw [HW.out]; exact World.drewN_drewN _ _ _⟩
        case measure => simp [intOf]; omega
    · have e := HI.out
      rw [List.take_of_length_le (by omega)] at e
      have HE := Lib.hid (decide_eq_true e)
      clear e hw
      go_wp2
      go_ret
      exact ⟨ret_b HE.out.symm, d, HW.out⟩
end Go.Proofs.Ytjpojidpmmodnaa
