/- Words for stocks in memory. -/
import Derived.Test.YtmecohdedghiaaaDoorPc04
import Derived.Deep.QuietTactic
import Derived.BigQuiet
import Derived.Deep.RegionHeld3
import Derived.Laws.Rows
import Derived.Test.YtmecohdedghiaaaDoorChecked
import Derived.Test.YtmecohdedghiaaaDoorPc00
import Derived.WalkKit
import Derived.WalkLawsBesides
import Derived.WalkSpells
import Derived.Outline
import Derived.KernelRfl
import Derived.Lib.Hide
import Derived.Test.YtmecohdedghiaaaDoorPc01
namespace Go.Proofs.YtmecohdedghiaaaDoor.Two
open Go.RowKit
theorem take_getD (l : List Int) (k : Nat) (h : k < l.length) : l.take (k + 1) = l.take k ++ [l.getD k 0] := by
 rw [List.take_succ_eq_append_getElem h, List.getD_eq_getElem?_getD, List.getElem?_eq_getElem h]
 rfl
theorem getD_mem (l : List Int) (k : Nat) (h : k < l.length) : l.getD k 0 ∈ l := by
 rw [List.getD_eq_getElem?_getD, List.getElem?_eq_getElem h]
 exact List.getElem_mem h
theorem inc_getD {l : List Int} (h : Inc l) (i j : Nat) (hij : i < j) (hj : j < l.length) : l.getD i 0 < l.getD j 0 := by
 rw [List.getD_eq_getElem?_getD, List.getD_eq_getElem?_getD, List.getElem?_eq_getElem hj, List.getElem?_eq_getElem (by omega)]
 exact List.pairwise_iff_getElem.1 h i j (by omega) hj hij
theorem inc_next {l : List Int} (k : Nat) (hk : k + 1 < l.length) (h : Inc (l.take (k + 1))) (hx : l.getD k 0 < l.getD (k + 1) 0) : Inc (l.take (k + 2)) := by
 rw [take_getD l (k + 1) hk]
 refine inc_snoc h fun y hy => ?_
 rw [take_getD l k (by omega)] at h hy
 rcases List.mem_append.1 hy with hy | hy
 ·have := (inc_append.1 h).2.2 y hy (l.getD k 0) (by simp)
  omega
 ·have : y = l.getD k 0 := by simpa using hy
  omega
theorem IsL.takeLit {w : World} {B b off cap : Nat} {xs : List Int} (hb : b < B) (hc : ∀ i, i < xs.length → w.cell? ⟨b, off + i, none⟩ = some (.int .i64 (xs.getD i 0))) (hf : ∀ x ∈ xs, fits x) (k : Nat) (hk : k ≤ xs.length) (hcap : k ≤ cap) (hl : xs.length ≤ 9223372036854775807) :
  IsL w B (.slice (some ⟨b, off, none⟩) k cap) (xs.take k) := by
 have e : (xs.take k).length = k := by rw [List.length_take]; omega
 refine ⟨⟨_, cap, by rw [e], by omega, fun _ => ⟨b, off, rfl, hb, fun i hi => ?_⟩⟩, fun x hx => hf x (List.mem_of_mem_take hx), by omega⟩
 rw [e] at hi
 rw [hc i (by omega), List.getD_eq_getElem?_getD, List.getD_eq_getElem?_getD, List.getElem?_take, if_pos hi]
theorem IsL.dropLit {w : World} {B b off cap : Nat} {xs : List Int} (hb : b < B) (hc : ∀ i, i < xs.length → w.cell? ⟨b, off + i, none⟩ = some (.int .i64 (xs.getD i 0))) (hf : ∀ x ∈ xs, fits x) (k : Nat) (hk : k ≤ xs.length) (hcap : xs.length ≤ cap) (hl : xs.length ≤ 9223372036854775807) :
  (cap = k → IsL w B (.slice (some ⟨b, off, none⟩) (xs.length - k) (cap - k)) (xs.drop k)) ∧ IsL w B (.slice (some ⟨b, off + k, none⟩) (xs.length - k) (cap - k)) (xs.drop k) := by
 have e : (xs.drop k).length = xs.length - k := List.length_drop
 refine ⟨fun h => ⟨⟨_, cap - k, by rw [e], by omega, fun h0 => by omega⟩, fun x hx => hf x (List.mem_of_mem_drop hx), by omega⟩, ⟨⟨_, cap - k, by rw [e], by omega, fun _ => ⟨b, off + k, rfl, hb, fun i hi => ?_⟩⟩, fun x hx => hf x (List.mem_of_mem_drop hx), by omega⟩⟩
 rw [show off + k + i = off + (k + i) by omega, hc (k + i) (by omega), List.getD_eq_getElem?_getD, List.getD_eq_getElem?_getD, List.getElem?_drop]
set_option maxRecDepth 100000 in
set_option maxHeartbeats 1000000 in
theorem in_any (v : Value) (xs : List Int) (n : Int) (w : World) (h : IsL w w.heap.size v xs) : Calls Tryd.prog 33 #[v, .int .i64 n] w fun e w' => e = .returned (.bool (decide (n ∈ xs))) ∧ w = w' := by
 obtain ⟨⟨A, cap, rfl, hcap, hA⟩, hfit, hlen⟩ := h
 have HA := Lib.hid hA
 clear hA hfit
 go_enter Tryd.func33, Tryd.ntmps33
 go_wp2
 go_loop [5] (fun i => ∃ k : Nat, k ≤ xs.length ∧ n ∉ xs.take k ∧ i = .int .i64 (k : Int)) (fun i => xs.length - (intOf i).toNat)
 case atStart => exact ⟨0, Nat.zero_le _, by simp, rfl⟩
 case round =>
  obtain ⟨k, hk, hni, rfl⟩ := hrel
  have HN := Lib.hid hni
  clear hni
  by_cases hlt : k < xs.length
  ·obtain ⟨b, off, rfl, hb, hcell⟩ := HA.out (by omega)
   have hx := hcell k hlt
   have HTK := Lib.hid (take_getD xs k hlt)
   have HM := Lib.hid (getD_mem xs k hlt)
   clear hcell
   generalize xs.getD k 0 = x at *
   by_cases hxn : x = n
   ·have hbq : (x == n) = true := by rw [beq_iff_eq]; exact hxn
    have HX := Lib.hid hxn
    clear hxn
    go_wp2
    go_ret
    have e := HX.out
    have m := HM.out
    exact ⟨ret_b (by rw [decide_eq_true (e ▸ m)]), rfl⟩
   ·have hbq : (x == n) = false := by rw [beq_eq_false_iff_ne]; exact hxn
    have HX := Lib.hid hxn
    clear hxn
    go_wp2
    go_round
    case rel =>
     refine ⟨k + 1, by omega, ?_, num_i (by omega)⟩
     rw [HTK.out, List.mem_append]
     intro hh
     rcases hh with hh | hh
     ·exact HN.out hh
     ·simp at hh; exact HX.out hh.symm
    case measure => simp [intOf]; omega
  ·obtain rfl : k = xs.length := by omega
   go_wp2
   go_ret
   have e := HN.out
   rw [List.take_length] at e
   exact ⟨ret_b (by rw [decide_eq_false e]), rfl⟩
set_option maxRecDepth 100000 in
set_option maxHeartbeats 1000000 in
theorem right_any (v : Value) (xs : List Int) (w : World) (h : IsL w w.heap.size v xs) : Calls Tryd.prog 51 #[v] w fun e w' => e = .returned (.bool (decide (Inc xs))) ∧ ∃ d, w' = w.drewN d := by
 obtain ⟨⟨A, cap, rfl, hcap, hA⟩, hfit, hlen⟩ := h
 have HA := Lib.hid hA
 clear hA hfit
 go_enter Tryd.func51, Tryd.ntmps51
 go_wp2
 go_loopw [3] (fun i wr => ∃ j d : Nat, (j + 1 ≤ xs.length ∨ j = 0) ∧ Inc (xs.take (j + 1)) ∧ i = .int .i64 ((j : Int) + 1) ∧ wr = w.drewN d) (fun i _ => xs.length - (intOf i).toNat)
 case atStart =>
  refine ⟨0, 0, Or.inr rfl, ?_, rfl, rfl⟩
  match xs with
  | [] => exact inc_nil
  | x :: r => exact List.pairwise_singleton _ _
 case round =>
  obtain ⟨j, d, hj, hinc, rfl, hw⟩ := hrel
  have HI := Lib.hid hinc
  have HW := Lib.hid hw
  clear hinc
  by_cases hlt : j + 1 < xs.length
  ·obtain ⟨b, off, rfl, hb, hcell⟩ := HA.out (by omega)
   have hx : wr.cell? ⟨b, off + j, none⟩ = some (.int .i64 (xs.getD j 0)) := by rw [hw]; exact hcell j (by omega)
   have hy : wr.cell? ⟨b, off + (j + 1), none⟩ = some (.int .i64 (xs.getD (j + 1) 0)) := by rw [hw]; exact hcell (j + 1) (by omega)
   have HNX := Lib.hid (inc_next (l := xs) j hlt)
   have HNG := Lib.hid (fun hi : Inc xs => inc_getD hi j (j + 1) (by omega) hlt)
   clear hcell hw
   generalize xs.getD j 0 = x at *
   generalize xs.getD (j + 1) 0 = y at *
   by_cases hxy : y ≤ x
   ·have HX := Lib.hid hxy
    go_wp2
    go_quiet (fail)
    go_wp2
    go_ret
    refine ⟨ret_b ?_, by rw [HW.out]; exact ⟨_, World.drewN_drewN _ _ _⟩⟩
    rw [decide_eq_false]
    intro hi
    have := HNG.out hi
    have := HX.out
    omega
   ·have HX := Lib.hid hxy
    go_wp2
    go_quiet (fail)
    go_wp2
    go_roundw
    case rel => exact ⟨j + 1, _, Or.inl (by omega), HNX.out HI.out (by have := HX.out; omega), num_i (by omega), by rw [HW.out]; exact World.drewN_drewN _ _ _⟩
    case measure => simp [intOf]; omega
  ·have e := HI.out
   rw [List.take_of_length_le (by omega)] at e
   have HE := Lib.hid (decide_eq_true e)
   clear e hw
   go_wp2
   go_ret
   exact ⟨ret_b HE.out.symm, d, HW.out⟩
end Go.Proofs.YtmecohdedghiaaaDoor.Two
namespace Go.Proofs.YtmecohdedghiaaaDoor.Two
open Go.RowKit
set_option maxRecDepth 100000 in
set_option maxHeartbeats 1000000 in
theorem rright_any (v : Value) (xs : List Int) (w : World) (h : IsL w w.heap.size v xs) : Calls Tryd.prog 14 #[v] w fun e w' => e = .returned (.bool (decide (Inc xs))) ∧ ∃ d, w' = w.drewN d := by
 obtain ⟨⟨A, cap, rfl, hcap, hA⟩, hfit, hlen⟩ := h
 have HA := Lib.hid hA
 clear hA hfit
 go_enter Tryd.func14, Tryd.ntmps14
 go_wp2
 go_loopw [3] (fun i wr => ∃ j d : Nat, (j + 1 ≤ xs.length ∨ j = 0) ∧ Inc (xs.take (j + 1)) ∧ i = .int .i64 ((j : Int) + 1) ∧ wr = w.drewN d) (fun i _ => xs.length - (intOf i).toNat)
 case atStart =>
  refine ⟨0, 0, Or.inr rfl, ?_, rfl, rfl⟩
  match xs with
  | [] => exact inc_nil
  | x :: r => exact List.pairwise_singleton _ _
 case round =>
  obtain ⟨j, d, hj, hinc, rfl, hw⟩ := hrel
  have HI := Lib.hid hinc
  have HW := Lib.hid hw
  clear hinc
  by_cases hlt : j + 1 < xs.length
  ·obtain ⟨b, off, rfl, hb, hcell⟩ := HA.out (by omega)
   have hx : wr.cell? ⟨b, off + j, none⟩ = some (.int .i64 (xs.getD j 0)) := by rw [hw]; exact hcell j (by omega)
   have hy : wr.cell? ⟨b, off + (j + 1), none⟩ = some (.int .i64 (xs.getD (j + 1) 0)) := by rw [hw]; exact hcell (j + 1) (by omega)
   have HNX := Lib.hid (inc_next (l := xs) j hlt)
   have HNG := Lib.hid (fun hi : Inc xs => inc_getD hi j (j + 1) (by omega) hlt)
   clear hcell hw
   generalize xs.getD j 0 = x at *
   generalize xs.getD (j + 1) 0 = y at *
   by_cases hxy : y ≤ x
   ·have HX := Lib.hid hxy
    go_wp2
    go_quiet (fail)
    go_wp2
    go_ret
    refine ⟨ret_b ?_, by rw [HW.out]; exact ⟨_, World.drewN_drewN _ _ _⟩⟩
    rw [decide_eq_false]
    intro hi
    have := HNG.out hi
    have := HX.out
    omega
   ·have HX := Lib.hid hxy
    go_wp2
    go_quiet (fail)
    go_wp2
    go_roundw
    case rel => exact ⟨j + 1, _, Or.inl (by omega), HNX.out HI.out (by have := HX.out; omega), num_i (by omega), by rw [HW.out]; exact World.drewN_drewN _ _ _⟩
    case measure => simp [intOf]; omega
  ·have e := HI.out
   rw [List.take_of_length_le (by omega)] at e
   have HE := Lib.hid (decide_eq_true e)
   clear e hw
   go_wp2
   go_ret
   exact ⟨ret_b HE.out.symm, d, HW.out⟩
set_option maxRecDepth 100000 in
set_option maxHeartbeats 1000000 in
theorem same_any (v u : Value) (xs ys : List Int) (w : World) (h : IsL w w.heap.size v xs) (hy : IsL w w.heap.size u ys) : Calls Tryd.prog 18 #[v, u] w fun e w' => e = .returned (.bool (decide (xs = ys))) ∧ ∃ d, w' = w.drewN d := by
 obtain ⟨⟨A, cap, rfl, hcap, hA⟩, hfit, hlen⟩ := h
 obtain ⟨⟨A2, cap2, rfl, hcap2, hA2⟩, hfit2, hlen2⟩ := hy
 have HA := Lib.hid hA
 have HA2 := Lib.hid hA2
 clear hA hfit hA2 hfit2
 by_cases hl : xs.length = ys.length
 ·rw [← hl] at HA2 ⊢
  have HL := Lib.hid hl
  clear hl
  go_enter Tryd.func18, Tryd.ntmps18
  go_wp2
  go_loopw [5] (fun i wr => ∃ k d : Nat, k ≤ xs.length ∧ xs.take k = ys.take k ∧ i = .int .i64 (k : Int) ∧ wr = w.drewN d) (fun i _ => xs.length - (intOf i).toNat)
  case atStart => exact ⟨0, 0, Nat.zero_le _, rfl, rfl, rfl⟩
  case round =>
   obtain ⟨k, d, hk, hsame, rfl, hw⟩ := hrel
   have HS := Lib.hid hsame
   have HW := Lib.hid hw
   clear hsame
   by_cases hlt : k < xs.length
   ·obtain ⟨b, off, rfl, hb, hcell⟩ := HA.out (by omega)
    obtain ⟨b2, off2, rfl, hb2, hcell2⟩ := HA2.out (by omega)
    have hx : wr.cell? ⟨b, off + k, none⟩ = some (.int .i64 (xs.getD k 0)) := by rw [hw]; exact hcell k hlt
    have hy : wr.cell? ⟨b2, off2 + k, none⟩ = some (.int .i64 (ys.getD k 0)) := by rw [hw]; exact hcell2 k hlt
    have HT := Lib.hid (take_getD xs k hlt)
    have HT2 := Lib.hid (take_getD ys k (by have := HL.out; omega))
    have HXY := Lib.hid (fun e : xs = ys => show xs.getD k 0 = ys.getD k 0 by rw [e])
    clear hcell hcell2 hw
    generalize xs.getD k 0 = x at *
    generalize ys.getD k 0 = y at *
    by_cases hxy : x = y
    ·subst hxy
     go_wp2
     go_quiet (fail)
     go_wp2
     go_roundw
     case rel => exact ⟨k + 1, _, by omega, by rw [HT.out, HT2.out, HS.out], num_i (by omega), by rw [HW.out]; exact World.drewN_drewN _ _ _⟩
     case measure => simp [intOf]; omega
    ·have hbq : (x != y) = true := by rw [bne_iff_ne]; exact hxy
     have HX := Lib.hid hxy
     clear hxy
     go_wp2
     go_quiet (fail)
     go_wp2
     go_ret
     refine ⟨ret_b ?_, by rw [HW.out]; exact ⟨_, World.drewN_drewN _ _ _⟩⟩
     rw [decide_eq_false]
     exact fun e => HX.out (HXY.out e)
   ·obtain rfl : k = xs.length := by omega
    have e := HS.out
    rw [List.take_length, List.take_of_length_le (by have := HL.out; omega)] at e
    have HE := Lib.hid (decide_eq_true e)
    clear e hw
    go_wp2
    go_ret
    exact ⟨ret_b HE.out.symm, d, HW.out⟩
 ·have hbq : ((xs.length : Int) != (ys.length : Int)) = true := by rw [bne_iff_ne]; omega
  have HL := Lib.hid hl
  clear hl
  go_enter Tryd.func18, Tryd.ntmps18
  go_wp2
  go_ret
  refine ⟨ret_b ?_, 0, by trivial⟩
  rw [decide_eq_false]
  intro e
  exact HL.out (by rw [e])
set_option maxRecDepth 100000 in
set_option maxHeartbeats 1000000 in
theorem rtwice_any (v : Value) (xs : List Int) (w : World) (h : IsL w w.heap.size v xs) : Calls Tryd.prog 46 #[v] w fun e w' => (∃ t, e = .returned (.int .i64 t) ∧ Tw xs t) ∧ ∃ d, w' = w.drewN d := by
 have HV := Lib.hid h
 obtain ⟨⟨A, cap, rfl, hcap, hA⟩, hfit, hlen⟩ := h
 have HA := Lib.hid hA
 have HF := Lib.hid hfit
 clear hA hfit
 go_enter Tryd.func46, Tryd.ntmps46
 go_wp2
 go_loopw [3] (fun i wr => ∃ k d : Nat, k ≤ xs.length ∧ (∀ j, j < k → xs.getD j 0 ∉ xs.take j) ∧ i = .int .i64 (k : Int) ∧ wr = w.drewN d) (fun i _ => xs.length - (intOf i).toNat)
 case atStart => exact ⟨0, 0, Nat.zero_le _, fun j hj => absurd hj (by omega), rfl, rfl⟩
 case round =>
  obtain ⟨k, d, hk, hno, rfl, hw⟩ := hrel
  have HN := Lib.hid hno
  have HW := Lib.hid hw
  clear hno
  by_cases hlt : k < xs.length
  ·obtain ⟨b, off, rfl, hb, hcell⟩ := HA.out (by omega)
   have hx : wr.cell? ⟨b, off + k, none⟩ = some (.int .i64 (xs.getD k 0)) := by rw [hw]; exact hcell k hlt
   have hsub : IsL wr wr.heap.size (.slice (some ⟨b, off, none⟩) k cap) (xs.take k) := by
    rw [hw]
    exact IsL.takeLit hb hcell HF.out k hk (by omega) hlen
   have HS := Lib.hid hsub
   clear hcell hw hsub
   have i1 : (0 : Int) ≤ (k : Int) := by omega
   have i2 : (k : Int) < (xs.length : Int) := by omega
   have i3 : (k : Int) ≤ (cap : Int) := by omega
   by_cases hm : xs.getD k 0 ∈ xs.take k
   ·have HM := Lib.hid hm
    have hd : decide (xs.getD k 0 ∈ xs.take k) = true := decide_eq_true hm
    have hin : ∀ (n : Int) (d : Nat), n = xs.getD k 0 → Calls Tryd.prog 33 #[.slice (some ⟨b, off, none⟩) k cap, .int .i64 n] (wr.drewN d) fun e w' => e = .returned (.bool true) ∧ w' = wr.drewN d := fun n d hn => by
     subst hn
     rw [← hd]
     exact (in_any _ (xs.take k) _ (wr.drewN d) HS.out).mono fun _ _ ⟨he, hw⟩ => ⟨he, hw.symm⟩
    have HIN := Lib.hid hin
    have HX := Lib.hid (rfl : xs.getD k 0 = xs.getD k 0)
    clear hm hd hin
    generalize hxx : xs.getD k 0 = x at *
    have HXX := Lib.hid hxx
    clear hxx
    go_wp2
    go_quiet ((go_at_call 33; exact Calls.quiet_of_same (HIN.out x _ rfl)))
    go_wp2
    go_ret
    exact ⟨⟨_, rfl, Or.inr ⟨k, hlt, rfl, by rw [HXX.out]; exact HM.out, HN.out⟩⟩, by rw [HW.out]; exact ⟨_, World.drewN_drewN _ _ _⟩⟩
   ·have HM := Lib.hid hm
    have hd : decide (xs.getD k 0 ∈ xs.take k) = false := decide_eq_false hm
    have hin : ∀ (n : Int) (d : Nat), n = xs.getD k 0 → Calls Tryd.prog 33 #[.slice (some ⟨b, off, none⟩) k cap, .int .i64 n] (wr.drewN d) fun e w' => e = .returned (.bool false) ∧ w' = wr.drewN d := fun n d hn => by
     subst hn
     rw [← hd]
     exact (in_any _ (xs.take k) _ (wr.drewN d) HS.out).mono fun _ _ ⟨he, hw⟩ => ⟨he, hw.symm⟩
    have HIN := Lib.hid hin
    clear hm hd hin
    generalize hxx : xs.getD k 0 = x at *
    have HXX := Lib.hid hxx
    clear hxx
    go_wp2
    go_quiet ((go_at_call 33; exact Calls.quiet_of_same (HIN.out x _ rfl)))
    go_wp2
    go_roundw
    case rel =>
     refine ⟨k + 1, _, by omega, fun j hj => ?_, num_i (by omega), by rw [HW.out]; exact World.drewN_drewN _ _ _⟩
     rcases Nat.lt_or_ge j k with h | h
     ·exact HN.out j h
     ·obtain rfl : j = k := by omega
      rw [HXX.out]
      exact HM.out
    case measure => simp [intOf]; omega
  ·obtain rfl : k = xs.length := by omega
   clear hw
   go_wp2
   go_ret
   exact ⟨⟨_, rfl, Or.inl ⟨rfl, HN.out⟩⟩, d, HW.out⟩
theorem IsL.dropIf {w : World} {B b off cap : Nat} {xs : List Int} (hb : b < B) (hc : ∀ i, i < xs.length → w.cell? ⟨b, off + i, none⟩ = some (.int .i64 (xs.getD i 0))) (hf : ∀ x ∈ xs, fits x) (k : Nat) (hk : k ≤ xs.length) (hcap : xs.length ≤ cap) (hl : xs.length ≤ 9223372036854775807) :
  IsL w B (.slice (if cap = k then some ⟨b, off, none⟩ else some ⟨b, off + k, none⟩) (xs.length - k) (cap - k)) (xs.drop k) := by
 have h := IsL.dropLit hb hc hf k hk hcap hl
 by_cases e : cap = k
 ·rw [if_pos e]; exact h.1 e
 ·rw [if_neg e]; exact h.2
end Go.Proofs.YtmecohdedghiaaaDoor.Two
namespace Go.Proofs.YtmecohdedghiaaaDoor.Two
open Go.RowKit
/-- An empty slice and a slice of one number, made in whichever order. -/
structure Made (X W : World) (H : Nat) : Prop where
 own : Own W X.heap.size (.slice (some ⟨H, 0, none⟩) 0 0) []
 below : Below X.heap.size X W
 size : X.heap.size ≤ W.heap.size
theorem IsL.one {W : World} {H : Nat} {x : Int} (hx : fits x) (h : W.heap[H]? = some (Obj.cells #[.int .i64 x] 3)) : IsL W (H + 1) (.slice (some ⟨H, 0, none⟩) 1 1) [x] := by
 refine ⟨⟨_, 1, rfl, by simp, fun _ => ⟨H, 0, rfl, by omega, fun i hi => ?_⟩⟩, fun y hy => by simp at hy; rw [hy]; exact hx, by simp⟩
 have : i = 0 := by simpa using hi
 subst this
 rw [cell_of_row _ H _ _ _ (0, 0) h]
 rfl
theorem Own.grow' {S : Nat} {X W W' : World} {v : Value} {xs : List Int} (h : Own W S v xs) (hb : Below S X W) (hs : S ≤ W.heap.size) (hg : W.grownBy W' v.ownBlock) : Below S X W' := hb.grown hg hs fun k hk => (h.lt k hk).1
end Go.Proofs.YtmecohdedghiaaaDoor.Two
namespace Go.Proofs.YtmecohdedghiaaaDoor.Two
open Go.RowKit
/-- A whole number of 128 bits in two words, the lower one first. -/
def W2 (x : Int) : Value := .agg #[.int .u64 (x % 18446744073709551616), .int .u64 (x / 18446744073709551616 % 18446744073709551616)]
theorem size_alloc (w : World) (o : Obj) : (w.alloc o).heap.size = w.heap.size + 1 := by simp
end Go.Proofs.YtmecohdedghiaaaDoor.Two
namespace Go.Proofs.YtmecohdedghiaaaDoor.Two
open Go.RowKit
theorem filter_snoc (l : List Int) (p : Int → Bool) (x : Int) : (l ++ [x]).filter p = l.filter p ++ (if p x then [x] else []) := by
 rw [List.filter_append]
 cases h : p x <;> simp [h]
set_option maxRecDepth 100000 in
set_option maxHeartbeats 2000000 in
theorem rless_any (v u : Value) (xs ys : List Int) (w : World) (h : IsL w w.heap.size v xs) (hy : IsL w w.heap.size u ys) (hl : xs.length ≤ 1000) :
  Calls Tryd.prog 15 #[v, u] w fun e w' => ∃ v, e = .returned v ∧ IsL w' w'.heap.size v (xs.filter (fun y => !decide (y ∈ ys))) ∧ Below w.heap.size w w' := by
 have HY := Lib.hid hy
 obtain ⟨⟨A, cap, rfl, hcap, hA⟩, hfit, hlen⟩ := h
 have HA := Lib.hid hA
 have HF := Lib.hid hfit
 obtain ⟨B, hB⟩ : ∃ B, B = w.heap.size := ⟨_, rfl⟩
 have HB := Lib.hid hB
 clear hA hfit hy hB
 go_enter Tryd.func15, Tryd.ntmps15
 go_wp2
 go_loopw [5, 6] (fun t i wr => ∃ k : Nat, k ≤ xs.length ∧ i = .int .i64 (k : Int) ∧ Own wr w.heap.size t ((xs.take k).filter (fun y => !decide (y ∈ ys))) ∧ Below w.heap.size w wr) (fun _ i _ => xs.length - (intOf i).toNat)
 case atStart => exact ⟨0, Nat.zero_le _, rfl, by simp; exact Own.nil _ _, Below.refl _ _⟩
 case round =>
  obtain ⟨k, hk, rfl, hu, hbel⟩ := hrel
  have HU := Lib.hid hu
  have HL := Lib.hid hbel
  have HFL := Lib.hid (Nat.le_trans (List.length_filter_le (fun y => !decide (y ∈ ys)) (xs.take k)) (by rw [List.length_take]; exact Nat.min_le_left _ _))
  by_cases hlt : k < xs.length
  ·obtain ⟨b, off, rfl, hbB, hcell⟩ := HA.out (by omega)
   have hx : wr.cell? ⟨b, off + k, none⟩ = some (.int .i64 (xs.getD k 0)) := (hbel.cell (p := ⟨b, off + k, none⟩) hbB).trans (hcell k hlt)
   have HFX := Lib.hid (getD_fits HF.out k)
   have hin := in_any u ys (xs.getD k 0) wr ((HY.out.below hbel).more hbel.size)
   have HTK := Lib.hid (show (xs.take (k + 1)).filter (fun y => !decide (y ∈ ys)) = (xs.take k).filter (fun y => !decide (y ∈ ys)) ++ (if !decide (xs.getD k 0 ∈ ys) then [xs.getD k 0] else []) by rw [take_getD xs k hlt, filter_snoc])
   have HIN := Lib.hid hin
   clear hcell hu hbel hin
   generalize xs.getD k 0 = x at *
   by_cases hm : x ∈ ys
   ·have hd : decide (x ∈ ys) = true := decide_eq_true hm
    have hin := HIN.out
    rw [hd] at hin
    have HIN2 := Lib.hid hin
    rw [hd] at HTK
    clear hm hd hin HIN
    go_wp2_with (go_at_call 33; refine (HIN2.out).mono ?_; rintro e w' ⟨rfl, rfl⟩)
    go_roundw
    case rel => exact ⟨k + 1, by omega, num_i (by omega), by rw [HTK.out]; simpa using HU.out, HL.out⟩
    case measure => simp [intOf]; omega
   ·have hd : decide (x ∈ ys) = false := decide_eq_false hm
    have hin := HIN.out
    rw [hd] at hin
    have HIN2 := Lib.hid hin
    rw [hd] at HTK
    clear hm hd hin HIN
    go_wp2_with (first
     | (go_at_call 33; refine (HIN2.out).mono ?_; rintro e w' ⟨rfl, rfl⟩)
     | (at_builtin; refine wpList_app _ rfl _ _ rfl w.heap.size (wr.heap.size + 1) _ _ ((xs.take k).filter (fun y => !decide (y ∈ ys))) [x] rfl rfl (HU.out.alloc _) (IsL.lit wr x HFX.out) ?c1 ?c2 ?_))
    case c1 => have := HFL.out; simp; omega
    case c2 => have := HL.out.size; simp; omega
    intro v1 w1 hown hgrow _
    have hb1 := Own.grow' (HU.out.alloc (.cells #[.int .i64 x] 3)) (HL.out.alloc HL.out.size _) (by have := HL.out.size; simp; omega) hgrow
    have H1 := Lib.hid hown
    have H2 := Lib.hid hb1
    clear hown hgrow hb1
    go_wp2
    go_roundw
    case rel => exact ⟨k + 1, by omega, num_i (by omega), by rw [HTK.out]; exact H1.out, H2.out⟩
    case measure => simp [intOf]; omega
  ·obtain rfl : k = xs.length := by omega
   rw [List.take_length] at HU
   have HR := Lib.hid (HU.out.isL (by have := HFL.out; rw [List.take_length] at this; omega))
   clear hu hbel
   go_wp2
   go_ret
   exact ⟨_, rfl, HR.out, HL.out⟩
end Go.Proofs.YtmecohdedghiaaaDoor.Two
namespace Go.Proofs.YtmecohdedghiaaaDoor.Two
open Go.RowKit
set_option maxRecDepth 100000 in
set_option maxHeartbeats 8000000 in
theorem either_any (v u : Value) (xs ys : List Int) (w : World) (h : IsL w w.heap.size v xs) (hy : IsL w w.heap.size u ys) (hl : xs.length + ys.length ≤ 1000) (hix : Inc xs) (hiy : Inc ys) :
  Calls Tryd.prog 50 #[v, u] w fun e w' => ∃ v, e = .returned v ∧ IsL w' w'.heap.size v (mk (xs ++ ys)) ∧ Below w.heap.size w w' := by
 obtain ⟨i0, hi, hz0, hz1, hz2⟩ := info_parts int_info
 obtain ⟨⟨A, cap, rfl, hcap, hA⟩, hfit, hlen⟩ := h
 have HY := Lib.hid hy
 obtain ⟨⟨A2, cap2, rfl, hcap2, hA2⟩, hfit2, hlen2⟩ := hy
 have HA := Lib.hid hA
 have HF := Lib.hid hfit
 have HA2 := Lib.hid hA2
 have HF2 := Lib.hid hfit2
 have HIX := Lib.hid hix
 have HIY := Lib.hid hiy
 clear hA hfit hA2 hfit2 hix hiy
 go_enter Tryd.func50, Tryd.ntmps50
 go_wp2_with (at_make; refine wpList_make_own _ rfl _ _ 27 rfl w.heap.size 3 i0 (.int .i64 0) 1 Tryd.underlying27 hi hz0 hz1 _ _ _ (xs.length + ys.length) rfl rfl (by omega) ?bytes ?maxLen ?base ?_)
 case bytes => rw [hz2]; omega
 case maxLen => unfold maxLen; omega
 case base => exact Nat.le_refl _
 intro w0 hown0 hg0
 have HO0 := Lib.hid (show Own w0 w.heap.size (.slice (some ⟨w.heap.size, 0, none⟩) 0 (xs.length + ys.length)) [] from ⟨hown0, fun x hx => by simp at hx⟩)
 have HB0 := Lib.hid (show Below w.heap.size w w0 from (Below.refl _ w).grown hg0 (Nat.le_refl _) (fun k hk => by cases hk))
 clear hown0 hg0
 go_wp2
 go_loopw [5, 6, 17] (fun t q i wr => ∃ (k at' : Nat) (all : List Int), k ≤ xs.length ∧ at' ≤ ys.length ∧ i = .int .i64 (k : Int) ∧ q = .int .i64 (at' : Int) ∧ Own wr w.heap.size t all ∧ Below w.heap.size w wr ∧ OInv xs ys k at' all) (fun _ _ i _ => xs.length - (intOf i).toNat)
 case atStart => exact ⟨0, 0, [], Nat.zero_le _, Nat.zero_le _, rfl, rfl, HO0.out, HB0.out, OInv.start _ _⟩
 case round =>
  clear HO0 HB0
  obtain ⟨k, at', all, hk, hat, rfl, rfl, hown, hbel, hinv⟩ := hrel
  have HO := Lib.hid hown
  have HL := Lib.hid hbel
  have HI := Lib.hid hinv
  by_cases hlt : k < xs.length
  ·obtain ⟨b, off, rfl, hbB, hcell⟩ := HA.out (by omega)
   have hx : wr.cell? ⟨b, off + k, none⟩ = some (.int .i64 (xs.getD k 0)) := (hbel.cell (p := ⟨b, off + k, none⟩) hbB).trans (hcell k hlt)
   have HFX := Lib.hid (getD_fits HF.out k)
   have HEN := Lib.hid (hinv.enter hlt)
   have HLV := Lib.hid (fun (t : Nat) (al : List Int) (hh : IInv xs ys k (xs.getD k 0) t al) (hx : t < ys.length → xs.getD k 0 < ys.getD t 0) => hh.leave HIX.out HIY.out hlt hx)
   clear hcell hown hbel hinv HI
   generalize xs.getD k 0 = n at *
   obtain ⟨wo, hwo⟩ : ∃ wo, wo = wr := ⟨_, rfl⟩
   subst hwo
   go_wp2
   go_loopw [5, 6] (fun t q wr => ∃ (at' : Nat) (all : List Int), at' ≤ ys.length ∧ q = .int .i64 (at' : Int) ∧ Own wr w.heap.size t all ∧ Below w.heap.size w wr ∧ IInv xs ys k n at' all) (fun _ q _ => ys.length - (intOf q).toNat)
   case atStart => exact ⟨at', all, hat, rfl, HO.out, HL.out, HEN.out⟩
   case round =>
    clear HO HL HEN hx
    obtain ⟨at', all, hat, rfl, hown, hbel, hinv⟩ := hrel
    have HO := Lib.hid hown
    have HL := Lib.hid hbel
    have HI := Lib.hid hinv
    have HLEN := Lib.hid hinv.len
    by_cases ht : at' < ys.length
    ·obtain ⟨b2, off2, rfl, hbB2, hcell2⟩ := HA2.out (by omega)
     have hx2 : wr.cell? ⟨b2, off2 + at', none⟩ = some (.int .i64 (ys.getD at' 0)) := (hbel.cell (p := ⟨b2, off2 + at', none⟩) hbB2).trans (hcell2 at' ht)
     have HFY := Lib.hid (getD_fits HF2.out at')
     have HLS := Lib.hid (fun h => hinv.less HIY.out ht h)
     have HSM := Lib.hid (fun h => hinv.same ht h)
     have HLV2 := Lib.hid (fun h => HLV.out at' all hinv (fun _ => h))
     clear hcell2 hown hbel hinv HI HLV
     generalize ys.getD at' 0 = y at *
     by_cases h1 : y < n
     ·have h1' : y ≤ n := by omega
      have HLS2 := Lib.hid (HLS.out h1)
      go_wp2_with (at_builtin; refine wpList_app _ rfl _ _ rfl w.heap.size (wr.heap.size + 1) _ _ all [y] rfl rfl (HO.out.alloc _) (IsL.lit wr y HFY.out) ?c1 ?c2 ?_)
      case c1 => have := HLEN.out; simp; omega
      case c2 => have := HL.out.size; simp; omega
      intro v1 w1 hown hgrow _
      have hb1 := Own.grow' (HO.out.alloc (.cells #[.int .i64 y] 3)) (HL.out.alloc HL.out.size _) (by have := HL.out.size; simp; omega) hgrow
      have H1 := Lib.hid hown
      have H2 := Lib.hid hb1
      clear hown hgrow hb1
      go_wp2
      go_roundw
      case rel => exact ⟨at' + 1, all ++ [y], by omega, num_i (by omega), H1.out, H2.out, HLS2.out⟩
      case measure => simp [intOf]; omega
     ·by_cases h2 : y = n
      ·have h2' : y ≤ n := by omega
       have HSM2 := Lib.hid (HSM.out h2)
       have h3 : ¬ y < n := h1
       clear h2
       go_wp2
       go_roundw
       case rel => exact ⟨at' + 1, all, by omega, num_i (by omega), HO.out, HL.out, HSM2.out⟩
       case measure => simp [intOf]; omega
      ·have h3 : n < y := by omega
       have HLV3 := Lib.hid (HLV2.out h3)
       clear h2 h1
       go_wp2_with (at_builtin; refine wpList_app _ rfl _ _ rfl w.heap.size (wr.heap.size + 1) _ _ all [n] rfl rfl (HO.out.alloc _) (IsL.lit wr n HFX.out) ?c1 ?c2 ?_)
       case c1 => have := HLEN.out; simp; omega
       case c2 => have := HL.out.size; simp; omega
       intro v1 w1 hown hgrow _
       have hb1 := Own.grow' (HO.out.alloc (.cells #[.int .i64 n] 3)) (HL.out.alloc HL.out.size _) (by have := HL.out.size; simp; omega) hgrow
       have H1 := Lib.hid hown
       have H2 := Lib.hid hb1
       clear hown hgrow hb1
       go_wp2
       go_roundw
       case rel => exact ⟨k + 1, at', all ++ [n], by omega, by omega, num_i (by omega), rfl, H1.out, H2.out, HLV3.out⟩
       case measure => simp [intOf]; omega
    ·have HLV2 := Lib.hid (HLV.out at' all hinv (fun h => absurd h ht))
     have HLV3 := Lib.hid HLV2.out
     clear hown hbel hinv HI HLV
     go_wp2_with (at_builtin; refine wpList_app _ rfl _ _ rfl w.heap.size (wr.heap.size + 1) _ _ all [n] rfl rfl (HO.out.alloc _) (IsL.lit wr n HFX.out) ?c1 ?c2 ?_)
     case c1 => have := HLEN.out; simp; omega
     case c2 => have := HL.out.size; simp; omega
     intro v1 w1 hown hgrow _
     have hb1 := Own.grow' (HO.out.alloc (.cells #[.int .i64 n] 3)) (HL.out.alloc HL.out.size _) (by have := HL.out.size; simp; omega) hgrow
     have H1 := Lib.hid hown
     have H2 := Lib.hid hb1
     clear hown hgrow hb1
     go_wp2
     go_roundw
     case rel => exact ⟨k + 1, at', all ++ [n], by omega, by omega, num_i (by omega), rfl, H1.out, H2.out, HLV3.out⟩
     case measure => simp [intOf]; omega
  ·obtain rfl : k = xs.length := by omega
   have HDN := Lib.hid (hinv.done HIY.out)
   have HLEN := Lib.hid hinv.len
   clear hown hbel hinv HI
   by_cases ht : at' < ys.length
   ·obtain ⟨b2, off2, rfl, hbB2, hcell2⟩ := HA2.out (by omega)
    have HD := Lib.hid (IsL.dropIf (cap := cap2) hbB2 hcell2 HF2.out at' (by omega) hcap2 hlen2)
    have HD2 := Lib.hid (IsL.dropLit (cap := cap2) hbB2 hcell2 HF2.out at' (by omega) hcap2 hlen2).2
    have i1 : (0 : Int) ≤ (at' : Int) := by omega
    have i2 : (at' : Int) ≤ (ys.length : Int) := by omega
    clear hcell2
    go_wp2_with (first
     | (at_builtin; refine wpList_app _ rfl _ _ rfl w.heap.size w.heap.size _ _ all (ys.drop at') rfl rfl HO.out (HD.out.below HL.out) ?c1 ?c2 ?_)
     | (at_builtin; refine wpList_app _ rfl _ _ rfl w.heap.size w.heap.size _ _ all (ys.drop at') rfl rfl HO.out (HD2.out.below HL.out) ?c1 ?c2 ?_))
    case c1 => have := HLEN.out; simp; omega
    case c2 => exact HL.out.size
    intro v1 w1 hown hgrow _
    have hb1 := Own.grow' HO.out HL.out HL.out.size hgrow
    have hr : all ++ ys.drop at' = mk (xs ++ ys) := HDN.out
    rw [hr] at hown
    have H1 := Lib.hid (hown.isL (by have := mk_len_le (xs ++ ys); rw [List.length_append] at this; omega))
    have H2 := Lib.hid hb1
    clear hown hgrow hb1
    go_wp2
    go_ret
    exact ⟨_, rfl, H1.out, H2.out⟩
   ·obtain rfl : at' = ys.length := by omega
    rw [List.drop_length] at HDN
    by_cases hy0 : 0 < ys.length
    ·obtain ⟨b2, off2, rfl, hbB2, hcell2⟩ := HA2.out hy0
     clear hcell2
     by_cases hc2 : cap2 = ys.length
     ·go_wp2_with (at_builtin; refine wpList_app _ rfl _ _ rfl w.heap.size w.heap.size _ _ all [] rfl rfl HO.out (IsL.nil _ _ _ _) ?c1 ?c2 ?_)
      case c1 => have := HLEN.out; simp; omega
      case c2 => exact HL.out.size
      intro v1 w1 hown hgrow _
      have hb1 := Own.grow' HO.out HL.out HL.out.size hgrow
      have hr : all = mk (xs ++ ys) := by have := HDN.out; simpa using this
      rw [hr] at hown
      have H1 := Lib.hid (hown.isL (by have := mk_len_le (xs ++ ys); rw [List.length_append] at this; omega))
      have H2 := Lib.hid hb1
      clear hown hgrow hb1
      go_wp2
      go_ret
      exact ⟨_, rfl, H1.out, H2.out⟩
     ·go_wp2_with (at_builtin; refine wpList_app _ rfl _ _ rfl w.heap.size w.heap.size _ _ all [] rfl rfl HO.out (IsL.nil _ _ _ _) ?c1 ?c2 ?_)
      case c1 => have := HLEN.out; simp; omega
      case c2 => exact HL.out.size
      intro v1 w1 hown hgrow _
      have hb1 := Own.grow' HO.out HL.out HL.out.size hgrow
      have hr : all = mk (xs ++ ys) := by have := HDN.out; simpa using this
      rw [hr] at hown
      have H1 := Lib.hid (hown.isL (by have := mk_len_le (xs ++ ys); rw [List.length_append] at this; omega))
      have H2 := Lib.hid hb1
      clear hown hgrow hb1
      go_wp2
      go_ret
      exact ⟨_, rfl, H1.out, H2.out⟩
    ·have hz : ys.length = 0 := by omega
     rw [hz]
     go_wp2_with (at_builtin; refine wpList_app _ rfl _ _ rfl w.heap.size w.heap.size _ _ all [] rfl rfl HO.out (IsL.nil _ _ _ _) ?c1 ?c2 ?_)
     case c1 => have := HLEN.out; simp; omega
     case c2 => exact HL.out.size
     intro v1 w1 hown hgrow _
     have hb1 := Own.grow' HO.out HL.out HL.out.size hgrow
     have hr : all = mk (xs ++ ys) := by have := HDN.out; simpa using this
     rw [hr] at hown
     have H1 := Lib.hid (hown.isL (by have := mk_len_le (xs ++ ys); rw [List.length_append] at this; omega))
     have H2 := Lib.hid hb1
     clear hown hgrow hb1
     go_wp2
     go_ret
     exact ⟨_, rfl, H1.out, H2.out⟩
end Go.Proofs.YtmecohdedghiaaaDoor.Two
namespace Go.Proofs.YtmecohdedghiaaaDoor
open Go.RowKit
/-- Is there such an id? -/
noncomputable def inR (d : Dk) (id : Int) : Bool := decide (0 ≤ id ∧ id < (tabV d).length)
/-- The lanes of an id that is there. -/
noncomputable def spA (d : Dk) (id : Int) : Int × Int := (tabV d).getD id.toNat (0, 0)
noncomputable def spsE (d : Dk) (ids : List Int) : Int := if zchk d = 0 then (if ids.all (inR d) = true then 0 else 3) else zchk d
noncomputable def spsL (d : Dk) (ids : List Int) : List (Int × Int) := if spsE d ids = 0 then ids.map (spA d) else []
theorem zchk_d (d : Dk) (h : zchk d = 0) : dchk d = 0 := by
 unfold zchk at h
 by_cases e : dchk d = 0
 ·exact e
 ·rw [if_neg e] at h; exact h
theorem tabV_z (d : Dk) (h : zchk d = 0) : tabV d = pairs (tabP d) := by unfold tabV; rw [if_pos h]
theorem tab_0 (d : Dk) (h : zchk d = 0) : ∀ t ∈ tabP d, t.2.2 = 0 := by
 have hd := zchk_d d h
 have : fstE (tabP d) = 0 := by
  rw [fst_tab d (dchk_ok d hd)]
  unfold zchk at h
  rw [if_pos hd] at h
  exact h
 exact fst_0 _ this
theorem tabV_len (d : Dk) (h : zchk d = 0) : (tabV d).length = (partsK d).length := by
 rw [tabV_z d h, pairs_len, tab_len0]
 unfold partsK
 rw [if_pos (zchk_d d h)]
theorem span_tab (d : Dk) (h : zchk d = 0) (id : Int) : spanV d id = if inR d id = true then (((tabP d).getD id.toNat (0, 0, 0)).1, ((tabP d).getD id.toNat (0, 0, 0)).2.1, 0) else (0, 0, 3) := by
 have hd := zchk_d d h
 have hl := tabV_len d h
 unfold spanV
 rw [partV_K d id hd]
 unfold partR inR
 rw [hl]
 by_cases hr : id < 0 ∨ ((partsK d).length : Int) ≤ id
 ·rw [if_pos hr, if_neg (by decide), if_neg (by simp; omega)]
 ·rw [if_neg hr, if_pos rfl, if_pos (by simp; omega)]
  have hk : id.toNat < (partsK d).length := by omega
  have e := tab_at d hd id.toNat hk
  dsimp only
  rw [← e]
  have hm : (tabP d).getD id.toNat (0, 0, 0) ∈ tabP d := getD_mem' _ _ _ (by rw [tab_len0]; unfold partsK at hk; rw [if_pos hd] at hk; exact hk)
  have h0 := tab_0 d h _ hm
  generalize (tabP d).getD id.toNat (0, 0, 0) = t at *
  obtain ⟨t1, t2, t3⟩ := t
  dsimp only at h0
  subst h0
  rfl
theorem spA_tab (d : Dk) (h : zchk d = 0) (id : Int) (hr : inR d id = true) : spA d id = ((((tabP d).getD id.toNat (0, 0, 0)).1 : Int), (((tabP d).getD id.toNat (0, 0, 0)).2.1 : Int)) := by
 unfold spA
 unfold inR at hr
 have hr := of_decide_eq_true hr
 rw [tabV_z d h] at hr ⊢
 rw [pairs_len] at hr
 rw [List.getD_eq_getElem?_getD, List.getD_eq_getElem?_getD]
 unfold pairs
 rw [List.getElem?_map, List.getElem?_eq_getElem (show id.toNat < (tabP d).length by omega)]
 rfl
theorem spA_good (d : Dk) {w : World} (hd : d.In w w.heap.size) (h : zchk d = 0) (id : Int) (hr : inR d id = true) : 0 ≤ (spA d id).1 ∧ (spA d id).1 ≤ (spA d id).2 ∧ (spA d id).2 ≤ 23 := by
 have hz := zchk_d d h
 rw [spA_tab d h id hr]
 have hr := of_decide_eq_true hr
 rw [tabV_len d h] at hr
 have hk : id.toNat < (partsK d).length := by omega
 have hm := getD_mem' (partsK d) id.toNat ⟨0, 0, 0, 0⟩ hk
 have e := tab_at d hz id.toNat hk
 have hm2 : (tabP d).getD id.toNat (0, 0, 0) ∈ tabP d := getD_mem' _ _ _ (by rw [tab_len0]; unfold partsK at hk; rw [if_pos hz] at hk; exact hk)
 have h0 := tab_0 d h _ hm2
 rw [e] at h0 ⊢
 have := spn_good d hd _ hm h0
 dsimp only
 omega
theorem span_in (d : Dk) (id : Int) (hid : fits id) (h : zchk d = 0) (hr : inR d id = true) (w : World) (hd : d.In w w.heap.size) : Calls Tryd.prog 84 #[d.v, .int .i64 id] w fun e w' => e = .returned (.tuple #[.agg #[.int .i64 (spA d id).1, .int .i64 (spA d id).2], .int .i64 0]) ∧ Below w.heap.size w w' := by
 have := span_any d id hid w hd
 rw [span_tab d h id, if_pos hr] at this
 rw [spA_tab d h id hr]
 exact this
theorem span_out (d : Dk) (id : Int) (hid : fits id) (h : zchk d = 0) (hr : inR d id = false) (w : World) (hd : d.In w w.heap.size) : Calls Tryd.prog 84 #[d.v, .int .i64 id] w fun e w' => e = .returned (.tuple #[.agg #[.int .i64 0, .int .i64 0], .int .i64 3]) ∧ Below w.heap.size w w' := by
 have := span_any d id hid w hd
 rw [span_tab d h id, if_neg (by rw [hr]; decide)] at this
 exact this
theorem all_hit (l : List Int) (f : Int → Bool) (k : Nat) (hk : k < l.length) (h : f (l.getD k 0) = false) : l.all f = false := all_no' l 0 f k hk h
theorem all_take (l : List Int) (f : Int → Bool) (k : Nat) (hk : k < l.length) (h0 : (l.take k).all f = true) (h : f (l.getD k 0) = true) : (l.take (k + 1)).all f = true := by
 rw [take_snoc l k 0 hk, List.all_append, h0, List.all_cons, h]
 rfl
theorem map_take1 (l : List Int) (f : Int → Int × Int) (k : Nat) (hk : k < l.length) : (l.take (k + 1)).map f = (l.take k).map f ++ [f (l.getD k 0)] := by
 rw [take_snoc l k 0 hk, List.map_append]
 rfl
set_option maxRecDepth 100000 in
set_option maxHeartbeats 8000000 in
theorem spans_any (d : Dk) (v : Value) (ids : List Int) (w : World) (hd : d.In w w.heap.size) (hv : KI.IsL w w.heap.size v ids) (hl : ids.length ≤ 1000) : Calls Tryd.prog 65 #[d.v, v] w fun e w' => ∃ u, e = .returned (.tuple #[u, .int .i64 (spsE d ids)]) ∧ KS.Own w' w.heap.size u (spsL d ids) ∧ Below w.heap.size w w' := by
 have HD := Lib.hid hd
 have HV := Lib.hid hv
 have HC := Lib.hid (fun w h => zcheck_any d w h)
 obtain ⟨⟨A, cap, rfl, _, _⟩, _, _⟩ := hv
 have HSE := Lib.hid (show spsE d ids = if zchk d = 0 then (if ids.all (inR d) = true then 0 else 3) else zchk d from rfl)
 have HSL := Lib.hid (show spsL d ids = if spsE d ids = 0 then ids.map (spA d) else [] from rfl)
 obtain ⟨w0, hw0⟩ : ∃ w0, w0 = w.alloc (.cells #[.slice d.bA d.bn d.bc, .slice d.pA d.pn d.pc, .slice d.rA d.rn d.rc, .int .i64 d.arms] 26) := ⟨_, rfl⟩
 have HB0 := Lib.hid (show Below w.heap.size w w0 by rw [hw0]; exact Below.al (Below.refl _ _) _)
 have HD0 := Lib.hid (HD.out.then HB0.out)
 have HF := Lib.hid (show ∀ w1, Below w0.heap.size w0 w1 → (w1.cell? ⟨w.heap.size, 0, none⟩ = some (.slice d.bA d.bn d.bc) ∧ w1.cell? ⟨w.heap.size, 1, none⟩ = some (.slice d.pA d.pn d.pc) ∧ w1.cell? ⟨w.heap.size, 2, none⟩ = some (.slice d.rA d.rn d.rc) ∧ w1.cell? ⟨w.heap.size, 3, none⟩ = some (.int .i64 d.arms)) from by
   intro w1 hb
   refine ⟨keep_cell hb ?_, keep_cell hb ?_, keep_cell hb ?_, keep_cell hb ?_⟩
   all_goals (rw [hw0]; simp))
 generalize spsL d ids = SL at *
 generalize spsE d ids = SE at *
 by_cases hz : zchk d = 0
 ·have HIN := Lib.hid (fun id hid hr w h => span_in d id hid hz hr w h)
  have HOUT := Lib.hid (fun id hid hr w h => span_out d id hid hz hr w h)
  have HGD := Lib.hid (fun id hr => spA_good d HD.out hz id hr)
  have HSE := Lib.hid (HSE.out.trans (if_pos hz))
  rw [hz] at HC
  clear hz hd
  go_enter Tryd.func65, Tryd.ntmps65
  go_wp2_with fail
  rw [← hw0]
  clear hw0
  refine (HC.out _ HD0.out).mono ?_
  rintro e w1 ⟨rfl, hb1⟩
  have HB1 := Lib.hid hb1
  clear hb1
  obtain ⟨i0, hi, hz0, hz1, hz2⟩ := info_parts KS.info
  obtain ⟨w3, hmk, hown, hgr⟩ := run_make_own (P := Tryd.prog) w1 w1.heap.size 85 101 i0 _ 2 Tryd.underlying85 hi hz0 hz1 .i64 .i64 ids.length (by rw [hz2]; show 16 * ids.length ≤ _; omega) (by unfold maxLen; omega) (Nat.le_refl _)
  have HO3 := Lib.hid (show KS.Own w3 w1.heap.size (.slice (some ⟨w1.heap.size, 0, none⟩) 0 ids.length) [] from ⟨hown, fun x hx => by simp at hx⟩)
  have HB3 := Lib.hid (show Below w1.heap.size w1 w3 from (Below.refl _ _).grown hgr (Nat.le_refl _) (fun k hk => by cases hk))
  clear hown hgr hi hz0 hz1 hz2
  go_wp2_with fail
  obtain ⟨u0, hu0⟩ : ∃ u0, u0 = Value.slice (some ⟨w1.heap.size, 0, none⟩) 0 ids.length := ⟨_, rfl⟩
  rw [← hu0] at HO3
  clear hmk
  go_loopw [7, 22] (fun u i wr => ∃ k : Nat, k ≤ ids.length ∧ i = .int .i64 k ∧ (ids.take k).all (inR d) = true ∧ KS.Own wr w1.heap.size u ((ids.take k).map (spA d)) ∧ Below w1.heap.size w1 wr) (fun _ i _ => ids.length - (intOf i).toNat)
  case atStart => exact ⟨0, Nat.zero_le _, rfl, rfl, by rw [← hu0]; exact HO3.out, HB3.out⟩
  case round =>
   obtain ⟨k, hk, rfl, hall, hown, hbl⟩ := hrel
   have HO := Lib.hid hown
   have HB := Lib.hid hbl
   have HA := Lib.hid hall
   clear hown hbl hall HO3 HB3 hu0
   by_cases hlt : k < ids.length
   ·have HVr := Lib.hid (HV.out.below (HB0.out.trans ((Below.call HB1.out HB.out).mono HB0.out.size)))
    obtain ⟨b, off, cap', hv', _, hb', _, hcell, hfit⟩ := KI.cells HVr.out (by omega)
    obtain ⟨rfl, rfl⟩ : A = some ⟨b, off, none⟩ ∧ cap' = cap := by cases hv'; exact ⟨rfl, rfl⟩
    have ck := hcell k hlt
    have fk := hfit k hlt
    obtain ⟨d0, d1, d2, d3⟩ := HF.out wr (Below.call HB1.out HB.out)
    have HDW := Lib.hid (HD0.out.then (Below.call HB1.out HB.out))
    have HAT := Lib.hid (fun h => all_take ids (inR d) k hlt HA.out h)
    have HAH := Lib.hid (fun h => all_hit ids (inR d) k hlt h)
    have HMT := Lib.hid (map_take1 ids (spA d) k hlt)
    have HLN := Lib.hid (show ((ids.take k).map (spA d)).length = k by simp; omega)
    clear hv' hcell hfit
    obtain ⟨x, hx⟩ : ∃ x, x = ids.getD k 0 := ⟨_, rfl⟩
    rw [← hx] at ck fk HAT HAH HMT
    clear hx
    generalize (ids.take k).map (spA d) = L at *
    by_cases hr : inR d x = true
    ·have HI := Lib.hid (HIN.out x fk hr wr HDW.out)
     have hg := HGD.out x hr
     have HA1 := Lib.hid (HAT.out hr)
     generalize spA d x = t at *
     obtain ⟨t1, t2⟩ := t
     dsimp only at *
     have HOKT := Lib.hid (show KS.ok (t1, t2) from ⟨show fits t1 by unfold fits; omega, show fits t2 by unfold fits; omega⟩)
     clear hr fk hg
     go_wp2_with fail
     refine HI.out.mono ?_
     rintro e w6 ⟨rfl, hb6⟩
     have HO6 := Lib.hid (HO.out.below hb6)
     have HB6 := Lib.hid (Below.call HB.out hb6)
     clear hb6 d0 d1 d2 d3
     go_wp2_with (at_builtin; refine Lk.wpList_app (K := KS) _ rfl _ _ rfl rfl w1.heap.size (w6.heap.size + 1 + 1) _ _ L [(t1, t2)] rfl rfl ((HO6.out.alloc _).alloc _) (Lk.IsL.lit (K := KS) _ (t1, t2) _ HOKT.out rfl (w6.heap.size + 1) (by simp)) ?c1 ?c2 ?_)
     case c1 => have := HLN.out; simp; omega
     case c2 => have := HB6.out.size; simp; omega
     intro v9 w9 hown hgrow _
     have HO9 := Lib.hid hown
     have HB9 := Lib.hid (Lk.Own.grow' ((HO6.out.alloc (.cells #[.int .i64 t1, .int .i64 t2] 101)).alloc (.cells #[.int .i64 t1, .int .i64 t2] 101)) (Below.al (Below.al HB6.out _) _) (by have := HB6.out.size; simp; omega) hgrow)
     clear hown hgrow
     go_wp2
     go_roundw
     case rel => exact ⟨k + 1, by omega, num_i (by omega), HA1.out, by rw [HMT.out]; exact HO9.out, HB9.out⟩
     case measure => simp [intOf]; omega
    ·have hr' : inR d x = false := by simpa using hr
     have HI := Lib.hid (HOUT.out x fk hr' wr HDW.out)
     have hE : SE = 3 := by rw [HSE.out, HAH.out hr']; rfl
     have hS : SL = [] := by rw [HSL.out, hE]; rfl
     subst hE hS
     clear hr hr' fk
     go_wp2_with fail
     refine HI.out.mono ?_
     rintro e w6 ⟨rfl, hb6⟩
     have HB6 := Lib.hid (Below.call HB.out hb6)
     clear hb6 d0 d1 d2 d3
     go_wp2
     go_ret2
     exact ⟨_, rfl, Lk.Own.nil _ _, Below.call HB0.out (Below.al (Below.call HB1.out HB6.out) _)⟩
   ·obtain rfl : k = ids.length := by omega
    rw [List.take_length] at HA HO
    have hE : SE = 0 := by rw [HSE.out, if_pos HA.out]
    have hS : SL = ids.map (spA d) := by rw [HSL.out, if_pos hE]
    rw [← hS] at HO
    subst hE
    clear hS
    go_wp2
    go_ret2
    exact ⟨_, rfl, HO.out.mono (Nat.le_trans HB0.out.size HB1.out.size), Below.call HB0.out (Below.call HB1.out HB.out)⟩
 ·have hE : SE = zchk d := by rw [HSE.out, if_neg hz]
  have hS : SL = [] := by rw [HSL.out, if_neg (by rw [hE]; exact hz)]
  have hz' : (zchk d != 0) = true := by rw [bne_iff_ne]; exact hz
  subst hE hS
  clear HSE HSL hz hd
  generalize zchk d = c at *
  go_enter Tryd.func65, Tryd.ntmps65
  go_wp2_with fail
  rw [← hw0]
  clear hw0
  refine (HC.out _ HD0.out).mono ?_
  rintro e w1 ⟨rfl, hb1⟩
  have HB1 := Lib.hid hb1
  clear hb1
  go_wp2
  go_ret2
  exact ⟨_, rfl, Lk.Own.nil _ _, Below.call HB0.out HB1.out⟩
end Go.Proofs.YtmecohdedghiaaaDoor
namespace Go.Proofs.YtmecohdedghiaaaDoor
open Go.RowKit
/-- The ids of lanes. -/
def lanesI (F : Int) (lo n : Nat) : List Int := (List.range n).map fun i : Nat => F + ((lo : Int) + (i : Int))
noncomputable def frst (d : Dk) : Int := (cntV d).1 + (cntV d).2.1
theorem frst_bd (d : Dk) : 0 ≤ (cntV d).1 ∧ (cntV d).1 ≤ 384 ∧ 0 ≤ (cntV d).2.1 ∧ (cntV d).2.1 ≤ 384 ∧ -1 ≤ (cntV d).2.2 ∧ (cntV d).2.2 ≤ 1000 := by
 unfold cntV
 by_cases hz : dchk d = 0
 ·have hok := dchk_ok d hz
  have h1 := wells_nn d.pl fun i hi => plate_size (hok.pl i hi)
  have h2 := tips_nn d.rl fun i hi => hok.rl i hi
  have h3 := hok.wells
  have h4 := hok.tips
  have h5 := hok.rise.most
  rw [if_pos hz]
  dsimp only
  omega
 ·rw [if_neg hz]; decide
theorem lanes_snoc (F : Int) (lo i : Nat) : lanesI F lo (i + 1) = lanesI F lo i ++ [F + ((lo : Int) + (i : Int))] := by
 unfold lanesI
 rw [List.range_succ, List.map_append]
 rfl
theorem lanes_len (F : Int) (lo i : Nat) : (lanesI F lo i).length = i := by unfold lanesI; simp
end Go.Proofs.YtmecohdedghiaaaDoor
namespace Go.Proofs.YtmecohdedghiaaaDoor
open Go.RowKit
theorem two_of {w : World} {B : Nat} {v : Value} {xs : List Int} (h : KI.IsL w B v xs) : Two.IsL w B v xs := by
 obtain ⟨⟨A, cap, hv, hc, hA⟩, hf, hl⟩ := h
 refine ⟨⟨A, cap, hv, hc, fun h0 => ?_⟩, hf, hl⟩
 obtain ⟨b, off, e, hb, hcell⟩ := hA h0
 refine ⟨b, off, e, hb, fun i hi => ?_⟩
 have := hcell i hi 0 (.int .i64 (xs.getD i 0)) rfl
 simpa [KI] using this
theorem of_two {w : World} {B : Nat} {v : Value} {xs : List Int} (h : Two.IsL w B v xs) : KI.IsL w B v xs := by
 obtain ⟨⟨A, cap, hv, hc, hA⟩, hf, hl⟩ := h
 refine ⟨⟨A, cap, hv, hc, fun h0 => ?_⟩, hf, hl⟩
 obtain ⟨b, off, e, hb, hcell⟩ := hA h0
 refine ⟨b, off, e, hb, fun i hi j u hu => ?_⟩
 have hj : j = 0 := by
  have := (List.getElem?_eq_some_iff.1 hu).1
  simp [KI] at this
  exact this
 subst hj
 have e2 : u = .int .i64 (xs.getD i 0) := by
  simp [KI] at hu
  rw [← hu]
  rfl
 subst e2
 have := hcell i hi
 simpa [KI] using this
set_option maxRecDepth 100000 in
set_option maxHeartbeats 4000000 in
theorem len_small (lo n : Nat) (h2 : lo + n ≤ 23) (w : World) : Calls Tryd.prog 86 #[.agg #[.int .i64 lo, .int .i64 ((lo : Int) + n)]] w fun e w' => e = .returned (.int .i64 ((n : Int) + 1)) ∧ Below w.heap.size w w' := by
 have HE := Lib.hid (fun w => show Calls Tryd.prog 87 #[.agg #[.int .i64 lo, .int .i64 ((lo : Int) + n)]] w fun e w' => e = .returned (.bool false) ∧ Below w.heap.size w w' by
  have := Sp.empty_any lo ((lo : Int) + n) w
  rwa [show decide ((lo : Int) + n < lo) = false from decide_eq_false (by omega)] at this)
 go_enter Tryd.func86, Tryd.ntmps86
 go_wp2_with fail
 refine (HE.out _).mono ?_
 rintro e w1 ⟨rfl, hb1⟩
 have c0 : w1.cell? ⟨w.heap.size, 0, none⟩ = some (.int .i64 lo) := keep_cell hb1 (by simp)
 have c1 : w1.cell? ⟨w.heap.size, 1, none⟩ = some (.int .i64 ((lo : Int) + n)) := keep_cell hb1 (by simp)
 have HB1 := Lib.hid (Below.call (Below.al (Below.refl _ _) (.cells #[.int .i64 lo, .int .i64 ((lo : Int) + n)] 101)) hb1)
 clear hb1
 go_wp2
 go_ret
 exact ⟨ret_i (by omega), HB1.out⟩
set_option maxRecDepth 100000 in
set_option maxHeartbeats 8000000 in
theorem lanes_any (d : Dk) (lo hi : Nat) (h1 : lo ≤ hi) (h2 : hi ≤ 23) (w : World) (hd : d.In w w.heap.size) : Calls Tryd.prog 66 #[d.v, .agg #[.int .i64 lo, .int .i64 hi]] w fun e w' => ∃ u, e = .returned u ∧ KI.Own w' w.heap.size u (lanesI (frst d) lo (hi + 1 - lo)) ∧ Below w.heap.size w w' := by
 obtain ⟨n, rfl⟩ : ∃ n, hi = lo + n := ⟨hi - lo, by omega⟩
 rw [show lo + n + 1 - lo = n + 1 by omega, show ((lo + n : Nat) : Int) = (lo : Int) + n from Int.natCast_add lo n]
 have HD := Lib.hid hd
 have HCT := Lib.hid (fun w h => counts_any d w h)
 have HLE := Lib.hid (fun w => len_small lo n h2 w)
 obtain ⟨b1, b2, b3, b4, b5, b6⟩ := frst_bd d
 unfold frst
 obtain ⟨w0, hw0⟩ : ∃ w0, w0 = (w.alloc (.cells #[.slice d.bA d.bn d.bc, .slice d.pA d.pn d.pc, .slice d.rA d.rn d.rc, .int .i64 d.arms] 26)).alloc (.cells #[.int .i64 lo, .int .i64 ((lo : Int) + n)] 101) := ⟨_, rfl⟩
 have HB0 := Lib.hid (show Below w.heap.size w w0 by rw [hw0]; exact Below.al (Below.al (Below.refl _ _) _) _)
 have HD0 := Lib.hid (HD.out.then HB0.out)
 have HF := Lib.hid (show ∀ w1, Below w0.heap.size w0 w1 → (w1.cell? ⟨w.heap.size + 1, 0, none⟩ = some (.int .i64 lo) ∧ w1.cell? ⟨w.heap.size + 1, 1, none⟩ = some (.int .i64 ((lo : Int) + n))) from by
   intro w1 hb
   refine ⟨keep_cell hb ?_, keep_cell hb ?_⟩
   all_goals (rw [hw0]; simp [go_sem]))
 generalize cntV d = c at *
 obtain ⟨c1, c2, c3⟩ := c
 dsimp only at *
 clear hd
 go_enter Tryd.func66, Tryd.ntmps66
 go_wp2_with fail
 rw [← hw0]
 clear hw0
 refine (HCT.out _ HD0.out).mono ?_
 rintro e w1 ⟨rfl, hb1⟩
 obtain ⟨s0, s1⟩ := HF.out w1 hb1
 have HB1 := Lib.hid hb1
 clear hb1
 go_wp2_with fail
 refine (HLE.out _).mono ?_
 rintro e w2 ⟨rfl, hb2⟩
 obtain ⟨s0', s1'⟩ := HF.out w2 (Below.call HB1.out hb2)
 have HB2 := Lib.hid (Below.call HB1.out hb2)
 clear hb2 s0 s1 s0' s1'
 obtain ⟨i0, hi, hz0, hz1, hz2⟩ := info_parts KI.info
 obtain ⟨w3, hmk, hown, hgr⟩ := run_make_own (P := Tryd.prog) w2 w2.heap.size 27 3 i0 _ 1 Tryd.underlying27 hi hz0 hz1 .i64 .i64 (n + 1) (by rw [hz2]; show 8 * (n + 1) ≤ _; omega) (by unfold maxLen; omega) (Nat.le_refl _)
 rw [show ((n + 1 : Nat) : Int) = (n : Int) + 1 from rfl] at hmk
 have HO3 := Lib.hid (show KI.Own w3 w2.heap.size (.slice (some ⟨w2.heap.size, 0, none⟩) 0 (n + 1)) [] from ⟨hown, fun x hx => by simp at hx⟩)
 have HB3 := Lib.hid (show Below w2.heap.size w2 w3 from (Below.refl _ _).grown hgr (Nat.le_refl _) (fun k hk => by cases hk))
 clear hown hgr hi hz0 hz1 hz2
 obtain ⟨s0, s1⟩ := HF.out w3 (Below.call HB2.out HB3.out)
 go_wp2_with fail
 obtain ⟨u0, hu0⟩ : ∃ u0, u0 = Value.slice (some ⟨w2.heap.size, 0, none⟩) 0 (n + 1) := ⟨_, rfl⟩
 rw [← hu0] at HO3
 clear hmk s0 s1
 go_loopw [8, 9] (fun u l wr => ∃ k : Nat, k ≤ n + 1 ∧ l = .int .i64 ((lo : Int) + k) ∧ KI.Own wr w2.heap.size u (lanesI (c1 + c2) lo k) ∧ Below w2.heap.size w2 wr) (fun _ l _ => lo + n + 1 - (intOf l).toNat)
 case atStart => exact ⟨0, Nat.zero_le _, by simp, by rw [← hu0]; exact HO3.out, HB3.out⟩
 case round =>
  obtain ⟨k, hk, rfl, hown, hbl⟩ := hrel
  have HO := Lib.hid hown
  have HB := Lib.hid hbl
  clear hown hbl HO3 hu0
  obtain ⟨s0, s1⟩ := HF.out wr (Below.call HB2.out HB.out)
  by_cases hlt : k ≤ n
  ·have HS := Lib.hid (lanes_snoc (c1 + c2) lo k)
   have HLN := Lib.hid (lanes_len (c1 + c2) lo k)
   generalize lanesI (c1 + c2) lo k = L at *
   go_wp2_with (at_builtin; refine Lk.wpList_app (K := KI) _ rfl _ _ rfl rfl w2.heap.size (wr.heap.size + 1) _ _ L [c1 + c2 + ((lo : Int) + (k : Int))] rfl rfl (HO.out.alloc _) (Lk.IsL.lit (K := KI) _ (c1 + c2 + ((lo : Int) + (k : Int))) _ (show fits _ by unfold fits; omega) (by simp [KI]) wr.heap.size rfl) ?c1 ?c2 ?_)
   case c1 => have := HLN.out; simp; omega
   case c2 => have := HB.out.size; simp; omega
   intro v9 w9 hown hgrow _
   have HO9 := Lib.hid hown
   have HB9 := Lib.hid (Lk.Own.grow' (HO.out.alloc _) (Below.al HB.out _) (by have := HB.out.size; simp; omega) hgrow)
   clear hown hgrow
   go_wp2
   go_roundw
   case rel => exact ⟨k + 1, by omega, num_i (by omega), by rw [HS.out]; exact HO9.out, HB9.out⟩
   case measure => simp [intOf]; omega
  ·obtain rfl : k = n + 1 := by omega
   go_wp2
   go_ret
   exact ⟨_, rfl, HO.out.mono (Nat.le_trans HB0.out.size HB2.out.size), Below.call HB0.out (Below.call HB2.out HB.out)⟩
end Go.Proofs.YtmecohdedghiaaaDoor
namespace Go.Proofs.YtmecohdedghiaaaDoor
open Go.RowKit
noncomputable def lanP (d : Dk) (p : Int × Int) : List Int := lanesI (frst d) p.1.toNat (p.2.toNat + 1 - p.1.toNat)
noncomputable def foldS (d : Dk) (l : List (Int × Int)) : List Int := l.foldl (fun s p => Two.mk (s ++ lanP d p)) []
noncomputable def setV (d : Dk) (ids : List Int) : List Int := foldS d (spsL d ids)
theorem sps_good (d : Dk) {w : World} (hd : d.In w w.heap.size) (ids : List Int) : ∀ p ∈ spsL d ids, 0 ≤ p.1 ∧ p.1 ≤ p.2 ∧ p.2 ≤ 23 := by
 intro p hp
 unfold spsL at hp
 by_cases he : spsE d ids = 0
 ·rw [if_pos he] at hp
  obtain ⟨x, hx, rfl⟩ := List.mem_map.1 hp
  unfold spsE at he
  by_cases hz : zchk d = 0
  ·rw [if_pos hz] at he
   by_cases ha : ids.all (inR d) = true
   ·exact spA_good d hd hz x (List.all_eq_true.1 ha x hx)
   ·rw [if_neg ha] at he; exact absurd he (by decide)
  ·rw [if_neg hz] at he; exact absurd he hz
 ·rw [if_neg he] at hp; cases hp
theorem sps_len (d : Dk) (ids : List Int) : (spsL d ids).length ≤ ids.length := by
 unfold spsL
 split
 ·simp
 ·simp
theorem lanes_inc (F : Int) (lo n : Nat) : Two.Inc (lanesI F lo n) := by
 unfold Two.Inc lanesI
 rw [List.pairwise_map]
 exact List.pairwise_lt_range.imp fun h => by omega
theorem lanes_mem (F : Int) (lo n : Nat) : ∀ x ∈ lanesI F lo n, F + lo ≤ x ∧ x < F + lo + n := by
 intro x hx
 unfold lanesI at hx
 obtain ⟨i, hi, rfl⟩ := List.mem_map.1 hx
 have := List.mem_range.1 hi
 omega
theorem inc_len (xs : List Int) : ∀ (a : Int) (n : Nat), Two.Inc xs → (∀ x ∈ xs, a ≤ x ∧ x < a + n) → xs.length ≤ n := by
 induction xs with
 | nil => intro a n _ _; exact Nat.zero_le _
 | cons x r ih =>
  intro a n hi hm
  obtain ⟨h1, h2⟩ := Two.inc_cons.1 hi
  have hx := hm x (by simp)
  have := ih (x + 1) (a + n - (x + 1)).toNat h2 fun y hy => by
   have := h1 y hy
   have := hm y (by simp [hy])
   omega
  rw [List.length_cons]
  omega
theorem fold_good (d : Dk) (l : List (Int × Int)) (h : ∀ p ∈ l, 0 ≤ p.1 ∧ p.1 ≤ p.2 ∧ p.2 ≤ 23) : Two.Inc (foldS d l) ∧ ∀ x ∈ foldS d l, frst d ≤ x ∧ x < frst d + 24 := by
 unfold foldS
 suffices ∀ s : List Int, (Two.Inc s ∧ ∀ x ∈ s, frst d ≤ x ∧ x < frst d + 24) → Two.Inc (l.foldl (fun s p => Two.mk (s ++ lanP d p)) s) ∧ ∀ x ∈ l.foldl (fun s p => Two.mk (s ++ lanP d p)) s, frst d ≤ x ∧ x < frst d + 24 from this [] ⟨Two.inc_nil, fun x hx => by cases hx⟩
 induction l with
 | nil => intro s hs; exact hs
 | cons p l ih =>
  intro s hs
  rw [List.foldl_cons]
  refine ih (fun q hq => h q (by simp [hq])) _ ⟨Two.inc_mk _, fun x hx => ?_⟩
  rw [Two.mem_mk] at hx
  rcases List.mem_append.1 hx with hx | hx
  ·exact hs.2 x hx
  ·have h0 := h p (by simp)
   have := lanes_mem _ _ _ x hx
   omega
theorem fold_len (d : Dk) (l : List (Int × Int)) (h : ∀ p ∈ l, 0 ≤ p.1 ∧ p.1 ≤ p.2 ∧ p.2 ≤ 23) : (foldS d l).length ≤ 24 := by
 obtain ⟨h1, h2⟩ := fold_good d l h
 exact inc_len _ (frst d) 24 h1 h2
theorem fold_snoc (d : Dk) (l : List (Int × Int)) (k : Nat) (hk : k < l.length) : foldS d (l.take (k + 1)) = Two.mk (foldS d (l.take k) ++ lanP d (l.getD k (0, 0))) := by
 rw [take_snoc l k (0, 0) hk]
 unfold foldS
 rw [List.foldl_append]
 rfl
theorem spsE_0 (d : Dk) (ids : List Int) (h : spsE d ids ≠ 0) : spsL d ids = [] := by unfold spsL; rw [if_neg h]
set_option maxRecDepth 100000 in
set_option maxHeartbeats 8000000 in
theorem needs_any (d : Dk) (v : Value) (ids : List Int) (w : World) (hd : d.In w w.heap.size) (hv : KI.IsL w w.heap.size v ids) (hl : ids.length ≤ 1000) : Calls Tryd.prog 49 #[d.v, v] w fun e w' => ∃ u, e = .returned (.tuple #[u, .int .i64 (spsE d ids)]) ∧ KI.IsL w' w'.heap.size u (setV d ids) ∧ Below w.heap.size w w' := by
 have HD := Lib.hid hd
 have HSP := Lib.hid (fun w h1 h2 => spans_any d v ids w h1 h2 hl)
 have HV := Lib.hid hv
 have HGD := Lib.hid (sps_good d hd ids)
 have HLN := Lib.hid (sps_len d ids)
 have HE0 := Lib.hid (spsE_0 d ids)
 have HST := Lib.hid (show setV d ids = foldS d (spsL d ids) from rfl)
 obtain ⟨w0, hw0⟩ : ∃ w0, w0 = w.alloc (.cells #[.slice d.bA d.bn d.bc, .slice d.pA d.pn d.pc, .slice d.rA d.rn d.rc, .int .i64 d.arms] 26) := ⟨_, rfl⟩
 have HB0 := Lib.hid (show Below w.heap.size w w0 by rw [hw0]; exact Below.al (Below.refl _ _) _)
 have HD0 := Lib.hid (HD.out.then HB0.out)
 have hsz0 : w.heap.size < w0.heap.size := by rw [hw0]; simp
 have HF := Lib.hid (show ∀ w1, Below w0.heap.size w0 w1 → (w1.cell? ⟨w.heap.size, 0, none⟩ = some (.slice d.bA d.bn d.bc) ∧ w1.cell? ⟨w.heap.size, 1, none⟩ = some (.slice d.pA d.pn d.pc) ∧ w1.cell? ⟨w.heap.size, 2, none⟩ = some (.slice d.rA d.rn d.rc) ∧ w1.cell? ⟨w.heap.size, 3, none⟩ = some (.int .i64 d.arms)) from by
   intro w1 hb
   refine ⟨keep_cell hb ?_, keep_cell hb ?_, keep_cell hb ?_, keep_cell hb ?_⟩
   all_goals (rw [hw0]; simp))
 rw [HST.out]
 clear HST hd hv
 generalize spsL d ids = SL at *
 generalize spsE d ids = SE at *
 by_cases hz : SE = 0
 ·subst hz
  go_enter Tryd.func49, Tryd.ntmps49
  go_wp2_with fail
  rw [← hw0]
  clear hw0
  refine (HSP.out w0 HD0.out (HV.out.then HB0.out)).mono ?_
  rintro e w1 ⟨tv, rfl, hown1, hb1⟩
  have HB1 := Lib.hid hb1
  have HIL := Lib.hid (hown1.isL (by have := HLN.out; omega))
  clear hb1 hown1
  obtain ⟨TA, tcap, rfl⟩ : ∃ A cap, tv = .slice A SL.length cap := by
   obtain ⟨⟨A, cap, h, _⟩, _⟩ := HIL.out
   exact ⟨A, cap, h⟩
  go_wp2_with fail
  go_loopw [8, 22] (fun u i wr => ∃ k : Nat, k ≤ SL.length ∧ i = .int .i64 k ∧ KI.IsL wr wr.heap.size u (foldS d (SL.take k)) ∧ Below w1.heap.size w1 wr) (fun _ i _ => SL.length - (intOf i).toNat)
  case atStart => exact ⟨0, Nat.zero_le _, rfl, Lk.IsL.nil _ _ _ _, Below.refl _ _⟩
  case round =>
   obtain ⟨k, hk, rfl, hil, hbl⟩ := hrel
   have HU := Lib.hid hil
   have HB := Lib.hid hbl
   have hln := HLN.out
   clear hil hbl
   by_cases hlt : k < SL.length
   ·obtain ⟨tb, toff, rfl, htb, htc, htcell⟩ := span_cells (HIL.out.below HB.out) (by omega)
    obtain ⟨e1, e2⟩ := htcell k hlt
    obtain ⟨d0, d1, d2, d3⟩ := HF.out wr (Below.call HB1.out HB.out)
    have hsw : w.heap.size < wr.heap.size := Nat.lt_of_lt_of_le hsz0 (Below.call HB1.out HB.out).size
    have hg := HGD.out _ (getD_mem' SL k (0, 0) hlt)
    have HFS := Lib.hid (fold_snoc d SL k hlt)
    have HGK := Lib.hid (fold_good d (SL.take k) fun p hp => HGD.out p (List.mem_of_mem_take hp))
    have HLK := Lib.hid (fold_len d (SL.take k) fun p hp => HGD.out p (List.mem_of_mem_take hp))
    have hlp : lanP d (SL.getD k (0, 0)) = lanesI (frst d) (SL.getD k (0, 0)).1.toNat ((SL.getD k (0, 0)).2.toNat + 1 - (SL.getD k (0, 0)).1.toNat) := rfl
    rw [hlp] at HFS
    clear htcell hlp
    generalize SL.getD k (0, 0) = t at *
    obtain ⟨t1, t2⟩ := t
    dsimp only at *
    obtain ⟨lo, rfl⟩ : ∃ lo : Nat, t1 = (lo : Int) := ⟨t1.toNat, by omega⟩
    obtain ⟨hi, rfl⟩ : ∃ hi : Nat, t2 = (hi : Int) := ⟨t2.toNat, by omega⟩
    simp only [Int.toNat_natCast] at HFS
    obtain ⟨w5, hw5⟩ : ∃ w5, w5 = wr.alloc (.cells #[.int .i64 lo, .int .i64 hi] 101) := ⟨_, rfl⟩
    have HB5 := Lib.hid (show Below w1.heap.size w1 w5 by rw [hw5]; exact Below.al HB.out _)
    have HU5 := Lib.hid (show KI.IsL w5 w5.heap.size u8 (foldS d (SL.take k)) by rw [hw5]; exact HU.out.then (Below.al (Below.refl _ _) _))
    have HLA := Lib.hid (lanes_any d lo hi (by omega) (by omega) w5 (HD0.out.then (Below.call HB1.out HB5.out)))
    have HLI := Lib.hid (lanes_inc (frst d) lo (hi + 1 - lo))
    have HLL := Lib.hid (lanes_len (frst d) lo (hi + 1 - lo))
    generalize lanesI (frst d) lo (hi + 1 - lo) = LL at *
    generalize foldS d (SL.take k) = S at *
    go_wp2_with fail
    rw [← hw5]
    clear hw5 d0 d1 d2 d3 e1 e2
    refine HLA.out.mono ?_
    rintro e w6 ⟨lv, rfl, hown6, hb6⟩
    have HIL6 := Lib.hid (hown6.isL (by have := HLL.out; omega))
    have HU6 := Lib.hid (HU5.out.then hb6)
    have HB6 := Lib.hid (Below.call HB5.out hb6)
    clear hown6 hb6
    go_wp2_with fail
    refine (Two.either_any _ _ S LL w6 (two_of HU6.out) (two_of HIL6.out) (by have := HLL.out; have := HLK.out; omega) HGK.out.1 HLI.out).mono ?_
    rintro e w7 ⟨nv, rfl, hnv, hb7⟩
    have HN7 := Lib.hid (of_two hnv)
    have HB7 := Lib.hid (Below.call HB6.out hb7)
    clear hnv hb7
    go_wp2
    go_roundw
    case rel => exact ⟨k + 1, by omega, num_i (by omega), by rw [HFS.out]; exact HN7.out, HB7.out⟩
    case measure => simp [intOf]; omega
   ·obtain rfl : k = SL.length := by omega
    rw [List.take_length] at HU
    go_wp2
    go_ret2
    exact ⟨_, rfl, HU.out, Below.call HB0.out (Below.call HB1.out HB.out)⟩
 ·have hS := HE0.out hz
  subst hS
  have hz' : (SE != 0) = true := by rw [bne_iff_ne]; exact hz
  clear hz
  go_enter Tryd.func49, Tryd.ntmps49
  go_wp2_with fail
  rw [← hw0]
  clear hw0
  refine (HSP.out w0 HD0.out (HV.out.then HB0.out)).mono ?_
  rintro e w1 ⟨tv, rfl, _, hb1⟩
  have HB1 := Lib.hid hb1
  clear hb1
  go_wp2
  go_ret2
  exact ⟨_, rfl, Lk.IsL.nil _ _ _ _, Below.call HB0.out HB1.out⟩
end Go.Proofs.YtmecohdedghiaaaDoor
namespace Go.Proofs.YtmecohdedghiaaaDoor
open Go.RowKit
noncomputable def clV (d : Dk) (a b : Int) : Bool := if spsE d [a, b] = 0 then decide ((spA d a).1 ≤ (spA d b).2 ∧ (spA d b).1 ≤ (spA d a).2) else false
noncomputable def pathV (d : Dk) (a b : Int) : List Int := if spsE d [a, b] = 0 then lanesI (frst d) (min (spA d a).1 (spA d b).1).toNat ((max (spA d a).2 (spA d b).2).toNat + 1 - (min (spA d a).1 (spA d b).1).toNat) else []
theorem sps2 (d : Dk) (a b : Int) (h : spsE d [a, b] = 0) : spsL d [a, b] = [spA d a, spA d b] := by unfold spsL; rw [if_pos h]; rfl
theorem two_cells {w : World} {B : Nat} {v : Value} {p q : Int × Int} (h : KS.IsL w B v [p, q]) : ∃ b off cap, v = .slice (some ⟨b, off, none⟩) 2 cap ∧ b < B ∧ 2 ≤ cap ∧ w.cell? ⟨b, off, none⟩ = some (.int .i64 p.1) ∧ w.cell? ⟨b, off + 1, none⟩ = some (.int .i64 p.2) ∧ w.cell? ⟨b, off + 2, none⟩ = some (.int .i64 q.1) ∧ w.cell? ⟨b, off + 3, none⟩ = some (.int .i64 q.2) := by
 obtain ⟨⟨A, cap, rfl, hc, hA⟩, _, _⟩ := id h
 obtain ⟨b, off, rfl, hb, _, hcell⟩ := span_cells h (by simp)
 have h0 := hcell 0 (by simp)
 have h1 := hcell 1 (by simp)
 simp only [Nat.zero_mul, Nat.add_zero, Nat.one_mul] at h0 h1
 exact ⟨b, off, cap, rfl, hb, hc, h0.1, h0.2, h1.1, h1.2⟩
theorem lit2 (w : World) (a b : Int) (ha : fits a) (hb : fits b) (H : Nat) (e : w.heap.size = H) : KI.IsL (w.alloc (.cells #[.int .i64 a, .int .i64 b] 3)) (H + 1) (.slice (some ⟨H, 0, none⟩) 2 2) [a, b] :=
 Lk.IsL.lits (K := KI) w [a, b] #[.int .i64 a, .int .i64 b] (fun x hx => by rcases List.mem_cons.1 hx with rfl | hx; exact ha; rcases List.mem_cons.1 hx with rfl | hx; exact hb; cases hx) rfl (by simp) H e
set_option maxRecDepth 100000 in
set_option maxHeartbeats 8000000 in
theorem path_any (d : Dk) (a b : Int) (ha : fits a) (hb : fits b) (w : World) (hd : d.In w w.heap.size) : Calls Tryd.prog 48 #[d.v, .int .i64 a, .int .i64 b] w fun e w' => ∃ u, e = .returned (.tuple #[u, .int .i64 (spsE d [a, b])]) ∧ KI.IsL w' w'.heap.size u (pathV d a b) ∧ Below w.heap.size w w' := by
 have HD := Lib.hid hd
 have HSP := Lib.hid (fun w v h1 h2 => spans_any d v [a, b] w h1 h2 (by simp))
 have HGD := Lib.hid (sps_good d hd [a, b])
 have HS2 := Lib.hid (sps2 d a b)
 have HE0 := Lib.hid (spsE_0 d [a, b])
 have HRV := Lib.hid (show pathV d a b = if spsE d [a, b] = 0 then lanesI (frst d) (min (spA d a).1 (spA d b).1).toNat ((max (spA d a).2 (spA d b).2).toNat + 1 - (min (spA d a).1 (spA d b).1).toNat) else [] from rfl)
 rw [HRV.out]
 obtain ⟨w0, hw0⟩ : ∃ w0, w0 = (w.alloc (.cells #[.slice d.bA d.bn d.bc, .slice d.pA d.pn d.pc, .slice d.rA d.rn d.rc, .int .i64 d.arms] 26)).alloc (.cells #[.int .i64 a, .int .i64 b] 3) := ⟨_, rfl⟩
 have HB0 := Lib.hid (show Below w.heap.size w w0 by rw [hw0]; exact Below.al (Below.al (Below.refl _ _) _) _)
 have HD0 := Lib.hid (HD.out.then HB0.out)
 have HL0 := Lib.hid (show KI.IsL w0 w0.heap.size (.slice (some ⟨w.heap.size + 1, 0, none⟩) 2 2) [a, b] by
  have := lit2 (w.alloc (.cells #[.slice d.bA d.bn d.bc, .slice d.pA d.pn d.pc, .slice d.rA d.rn d.rc, .int .i64 d.arms] 26)) a b ha hb (w.heap.size + 1) (by simp)
  rw [hw0]
  simpa using this)
 have hsz0 : w.heap.size < w0.heap.size := by rw [hw0]; simp; omega
 have HF := Lib.hid (show ∀ w1, Below w0.heap.size w0 w1 → (w1.cell? ⟨w.heap.size, 0, none⟩ = some (.slice d.bA d.bn d.bc) ∧ w1.cell? ⟨w.heap.size, 1, none⟩ = some (.slice d.pA d.pn d.pc) ∧ w1.cell? ⟨w.heap.size, 2, none⟩ = some (.slice d.rA d.rn d.rc) ∧ w1.cell? ⟨w.heap.size, 3, none⟩ = some (.int .i64 d.arms)) from by
   intro w1 hb
   refine ⟨keep_cell hb ?_, keep_cell hb ?_, keep_cell hb ?_, keep_cell hb ?_⟩
   all_goals (rw [hw0]; simp [go_sem]))
 clear HRV hd
 by_cases hz : spsE d [a, b] = 0
 ·rw [HS2.out hz, hz] at HSP
  rw [HS2.out hz] at HGD
  rw [hz, if_pos rfl]
  have g1 := HGD.out (spA d a) (by simp)
  have g2 := HGD.out (spA d b) (by simp)
  clear hz HS2 HE0 HGD
  generalize spA d a = p at *
  generalize spA d b = q at *
  obtain ⟨p1, p2⟩ := p
  obtain ⟨q1, q2⟩ := q
  dsimp only at *
  obtain ⟨p1, rfl⟩ : ∃ k : Nat, p1 = (k : Int) := ⟨p1.toNat, by omega⟩
  obtain ⟨p2, rfl⟩ : ∃ k : Nat, p2 = (k : Int) := ⟨p2.toNat, by omega⟩
  obtain ⟨q1, rfl⟩ : ∃ k : Nat, q1 = (k : Int) := ⟨q1.toNat, by omega⟩
  obtain ⟨q2, rfl⟩ : ∃ k : Nat, q2 = (k : Int) := ⟨q2.toNat, by omega⟩
  have m1 : min (p1 : Int) q1 = ((min p1 q1 : Nat) : Int) := by omega
  have m2 : max (p2 : Int) q2 = ((max p2 q2 : Nat) : Int) := by omega
  rw [m1, m2, Int.toNat_natCast, Int.toNat_natCast]
  obtain ⟨lo, hlo⟩ : ∃ lo, lo = min p1 q1 := ⟨_, rfl⟩
  obtain ⟨hi, hhi⟩ : ∃ hi, hi = max p2 q2 := ⟨_, rfl⟩
  rw [← hlo, ← hhi]
  have hmm : hi ≤ 23 := by omega
  have hlh : lo ≤ hi := by omega
  have HLO := Lib.hid hlo
  have HHI := Lib.hid hhi
  clear hlo hhi
  go_enter Tryd.func48, Tryd.ntmps48
  go_wp2_with fail
  rw [← hw0]
  clear hw0
  refine (HSP.out w0 _ HD0.out HL0.out).mono ?_
  rintro e w1 ⟨tv, rfl, hown1, hb1⟩
  have HB1 := Lib.hid hb1
  obtain ⟨tb, toff, tcap, rfl, htb, htc, e0, e1, e2, e3⟩ := two_cells (hown1.isL (by simp))
  obtain ⟨d0, d1, d2, d3⟩ := HF.out w1 hb1
  have hsw : w.heap.size < w1.heap.size := Nat.lt_of_lt_of_le hsz0 hb1.size
  clear hb1 hown1
  have HH := Lib.hid (fun w => show Calls Tryd.prog 67 #[.agg #[.int .i64 p1, .int .i64 p2], .agg #[.int .i64 q1, .int .i64 q2]] w fun e w' => e = .returned (.agg #[.int .i64 lo, .int .i64 hi]) ∧ Below w.heap.size w w' by
   have := Sp.hull_any ((p1 : Int), (p2 : Int)) ((q1 : Int), (q2 : Int)) w
   rw [Sp.hullV_yy (show ¬ (p2 : Int) < p1 by omega) (show ¬ (q2 : Int) < q1 by omega)] at this
   dsimp only at this
   rwa [m1, m2, ← HLO.out, ← HHI.out] at this)
  have HLA := Lib.hid (fun (V : World) (h : Below w0.heap.size w0 V) => lanes_any d lo hi hlh hmm V (HD0.out.then h))
  clear m1 m2
  go_wp2_with fail
  refine wp_region_held_drew (S := fun w' => w'.cell? ⟨w.heap.size, 0, none⟩ = some (.slice d.bA d.bn d.bc) ∧ w'.cell? ⟨w.heap.size, 1, none⟩ = some (.slice d.pA d.pn d.pc) ∧ w'.cell? ⟨w.heap.size, 2, none⟩ = some (.slice d.rA d.rn d.rc) ∧ w'.cell? ⟨w.heap.size, 3, none⟩ = some (.int .i64 d.arms) ∧ w'.cell? ⟨tb, toff, none⟩ = some (.int .i64 p1) ∧ w'.cell? ⟨tb, toff + 1, none⟩ = some (.int .i64 p2) ∧ w'.cell? ⟨tb, toff + 2, none⟩ = some (.int .i64 q1) ∧ w'.cell? ⟨tb, toff + 3, none⟩ = some (.int .i64 q2)) (by kernel_rfl) ?_ (fun hHeld => ?_)
  ·exact ⟨d0, d1, d2, d3, e0, e1, e2, e3⟩
  refine wpAnyH_take (i := 0) (oi := ⟨some 21, _, _, _, _, _⟩) (v := ?_) rfl (by kernel_rfl) (by kernel_rfl) (by kernel_rfl) (fun _ _ _ h => h) (Or.inl ⟨by kernel_rfl, ?_⟩) (by assumption) ?_
  rotate_left 1
  ·((intro w hSw; (try dsimp only at hSw); go_simp) <;> (try with_reducible rfl))
  (try simp only [Act.put, List.setIfInBounds_toArray, List.set_cons_zero, List.set_cons_succ])
  refine wpAnyH_take (i := 1) (oi := ⟨some 22, _, _, _, _, _⟩) (v := ?_) rfl (by kernel_rfl) (by kernel_rfl) (by kernel_rfl) (fun _ _ _ h => h) (Or.inl ⟨by kernel_rfl, ?_⟩) (by assumption) ?_
  rotate_left 1
  ·((intro w hSw; (try dsimp only at hSw); go_simp) <;> (try with_reducible rfl))
  (try simp only [Act.put, List.setIfInBounds_toArray, List.set_cons_zero, List.set_cons_succ])
  refine wpAnyH_take (i := 2) (oi := ⟨some 23, _, _, _, _, _⟩) (v := ?_) rfl (by kernel_rfl) (by kernel_rfl) (by kernel_rfl) (fun _ _ _ h => h) (Or.inl ⟨by kernel_rfl, ?_⟩) (by assumption) ?_
  rotate_left 1
  ·((intro w hSw; (try dsimp only at hSw); go_simp) <;> (try with_reducible rfl))
  (try simp only [Act.put, List.setIfInBounds_toArray, List.set_cons_zero, List.set_cons_succ])
  refine wpAnyH_take (i := 3) (oi := ⟨some 24, _, _, _, _, _⟩) (v := ?_) rfl (by kernel_rfl) (by kernel_rfl) (by kernel_rfl) (fun _ _ _ h => h) (Or.inl ⟨by kernel_rfl, ?_⟩) (by assumption) ?_
  rotate_left 1
  ·((intro w hSw; (try dsimp only at hSw); go_simp) <;> (try with_reducible rfl))
  (try simp only [Act.put, List.setIfInBounds_toArray, List.set_cons_zero, List.set_cons_succ])
  refine wpAnyH_take (i := 4) (oi := ⟨some 25, _, _, _, _, _⟩) (v := ?_) rfl (by kernel_rfl) (by kernel_rfl) (by kernel_rfl) (fun _ _ _ h => h) (Or.inl ⟨by kernel_rfl, ?_⟩) (by assumption) ?_
  rotate_left 1
  ·((intro w hSw; (try dsimp only at hSw); go_simp) <;> (try with_reducible rfl))
  (try simp only [Act.put, List.setIfInBounds_toArray, List.set_cons_zero, List.set_cons_succ])
  refine wpAnyH_take (i := 5) (oi := ⟨some 26, _, _, _, _, _⟩) (v := ?_) rfl (by kernel_rfl) (by kernel_rfl) (by kernel_rfl) (fun _ _ _ h => h) (Or.inl ⟨by kernel_rfl, ?_⟩) (by assumption) ?_
  rotate_left 1
  ·((intro w hSw; (try dsimp only at hSw); go_simp) <;> (try with_reducible rfl))
  (try simp only [Act.put, List.setIfInBounds_toArray, List.set_cons_zero, List.set_cons_succ])
  refine wpAnyH_take (i := 6) (oi := ⟨some 27, _, _, _, _, _⟩) (v := ?_) rfl (by kernel_rfl) (by kernel_rfl) (by kernel_rfl) (fun _ _ _ h => h) (Or.inl ⟨by kernel_rfl, ?_⟩) (by assumption) ?_
  rotate_left 1
  ·((intro w hSw; (try dsimp only at hSw); go_simp) <;> (try with_reducible rfl))
  (try simp only [Act.put, List.setIfInBounds_toArray, List.set_cons_zero, List.set_cons_succ])
  clear d0 d1 d2 d3 e0 e1 e2 e3
  refine wpAnyH_ready (rs := [7]) (by kernel_rfl) (by simp) ?_
  refine AllReadyH.cons (o := ⟨some 28, _, _, _, _, _⟩) rfl (fun K hK => ?_) AllReadyH.nil
  go_simp
  refine (HH.out _).mono ?_
  rintro e w6 ⟨rfl, hb⟩
  have HB6 := Lib.hid (Below.call HB1.out.drew hb)
  go_wp2_with fail
  refine hK.out _ _ ?_ (fun hHeld => ?_)
  ·exact ⟨keep_cell hb hHeld.1, keep_cell hb hHeld.2.1, keep_cell hb hHeld.2.2.1, keep_cell hb hHeld.2.2.2.1, keep_cell hb hHeld.2.2.2.2.1, keep_cell hb hHeld.2.2.2.2.2.1, keep_cell hb hHeld.2.2.2.2.2.2.1, keep_cell hb hHeld.2.2.2.2.2.2.2⟩
  clear hK K hb
  (try simp only [Act.put, List.setIfInBounds_toArray, List.set_cons_zero, List.set_cons_succ])
  refine wpAnyH_ready (rs := [8]) (by kernel_rfl) (by simp) ?_
  refine AllReadyH.cons (o := ⟨some 29, _, _, _, _, _⟩) rfl (fun K hK => ?_) AllReadyH.nil
  go_simp
  refine (HLA.out _ HB6.out).mono ?_
  rintro e w7 ⟨lv, rfl, hown7, hb⟩
  have HIL7 := Lib.hid (hown7.isL (by rw [lanes_len]; omega))
  have HB7 := Lib.hid (Below.call HB6.out hb)
  clear hown7
  go_wp2_with fail
  refine hK.out _ _ ?_ (fun hHeld => ?_)
  ·exact ⟨keep_cell hb hHeld.1, keep_cell hb hHeld.2.1, keep_cell hb hHeld.2.2.1, keep_cell hb hHeld.2.2.2.1, keep_cell hb hHeld.2.2.2.2.1, keep_cell hb hHeld.2.2.2.2.2.1, keep_cell hb hHeld.2.2.2.2.2.2.1, keep_cell hb hHeld.2.2.2.2.2.2.2⟩
  clear hK K hb
  (try simp only [Act.put, List.setIfInBounds_toArray, List.set_cons_zero, List.set_cons_succ])
  refine wpAnyH_take (i := 9) (oi := ⟨some 6, _, _, _, _, _⟩) (v := ?_) rfl (by kernel_rfl) (by kernel_rfl) (by kernel_rfl) (fun _ _ _ h => h) (Or.inl ⟨by kernel_rfl, ?_⟩) (by assumption) ?_
  rotate_left 1
  ·((intro w hSw; (try dsimp only at hSw); go_simp) <;> (try with_reducible rfl))
  (try simp only [Act.put, List.setIfInBounds_toArray, List.set_cons_zero, List.set_cons_succ])
  refine wpAnyH_take (i := 10) (oi := ⟨some 7, _, _, _, _, _⟩) (v := ?_) rfl (by kernel_rfl) (by kernel_rfl) (by kernel_rfl) (fun _ _ _ h => h) (Or.inl ⟨by kernel_rfl, ?_⟩) (by assumption) ?_
  rotate_left 1
  ·((intro w hSw; (try dsimp only at hSw); go_simp) <;> (try with_reducible rfl))
  (try simp only [Act.put, List.setIfInBounds_toArray, List.set_cons_zero, List.set_cons_succ])
  refine wpAnyH_done (by kernel_rfl) ?_ _
  go_wp2
  go_ret2
  exact ⟨_, rfl, HIL7.out, Below.call HB0.out HB7.out⟩
 ·rw [HE0.out hz] at HSP
  rw [if_neg hz]
  have hz' : (spsE d [a, b] != 0) = true := by rw [bne_iff_ne]; exact hz
  clear hz HS2 HE0 HGD
  generalize spsE d [a, b] = SE at *
  go_enter Tryd.func48, Tryd.ntmps48
  go_wp2_with fail
  rw [← hw0]
  clear hw0
  refine (HSP.out w0 _ HD0.out HL0.out).mono ?_
  rintro e w1 ⟨tv, rfl, _, hb1⟩
  have HB1 := Lib.hid hb1
  clear hb1
  go_wp2
  go_ret2
  exact ⟨_, rfl, Lk.IsL.nil _ _ _ _, Below.call HB0.out HB1.out⟩
end Go.Proofs.YtmecohdedghiaaaDoor
namespace Go.Proofs.YtmecohdedghiaaaDoor
open Go.RowKit
end Go.Proofs.YtmecohdedghiaaaDoor
namespace Go.Proofs.YtmecohdedghiaaaDoor.Cel
open Go.RowKit
/-- A cell: capacity, volume, version. -/
structure Ce where
 a : Int
 b : Int
 c : Int
abbrev Ce.v (x : Ce) : Value := .agg #[.int .i64 x.a, .int .i64 x.b, .int .i64 x.c]
structure Ce.Fit (x : Ce) : Prop where
 a : fits x.a
 b : fits x.b
 c : fits x.c
def Ce.Right (x : Ce) : Prop := 1 ≤ x.a ∧ x.a ≤ 1099511627776 ∧ 0 ≤ x.b ∧ x.b ≤ x.a ∧ 0 ≤ x.c ∧ x.c ≤ 2147483647
instance (x : Ce) : Decidable x.Right := by unfold Ce.Right; infer_instance
def rightB (x : Ce) : Bool := decide x.Right
end Go.Proofs.YtmecohdedghiaaaDoor.Cel
namespace Go.Proofs.YtmecohdedghiaaaDoor.Cel
open Go.RowKit
end Go.Proofs.YtmecohdedghiaaaDoor.Cel
namespace Go.Proofs.YtmecohdedghiaaaDoor.Cel
open Go.RowKit
end Go.Proofs.YtmecohdedghiaaaDoor.Cel
namespace Go.Proofs.YtmecohdedghiaaaDoor
open Go.RowKit
theorem Lk.IsL.shape {P : Program} {α : Type} {K : Lk P α} {w : World} {B : Nat} {v : Value} {xs : List α} (h : K.IsL w B v xs) : ∃ A c, v = .slice A xs.length c ∧ xs.length ≤ c := by
 obtain ⟨⟨A, cap, rfl, hc, hA⟩, _, _⟩ := h
 exact ⟨A, cap, rfl, hc⟩
def tpCells (q : Int × Int) : List Value := [.int .i64 q.1, .int .i64 q.2]
/-- A change: version, arm, how much. -/
structure Ch where
 a : Int
 b : Int
 c : Int
def chCells (q : Ch) : List Value := [.int .i64 q.a, .int .i64 q.b, .int .i64 q.c]
def ch0 : Ch := ⟨0, 0, 0⟩
/-- Lists of changes. -/
noncomputable def KC : Lk Tryd.prog (Ch) where
 S := 37
 E := 79
 n := 3
 zero := .agg #[.int .i64 0, .int .i64 0, .int .i64 0]
 bytes := 24
 cells := chCells
 dflt := ch0
 ok := fun q => fits q.a ∧ fits q.b ∧ fits q.c
 und := Tryd.underlying37
 info := by kernel_rfl
 zs := rfl
 pos := by decide
 small := by decide
 len _ := rfl
 one x u hu := by
  simp only [chCells, List.mem_cons, List.not_mem_nil, or_false] at hu
  rcases hu with rfl | rfl | rfl <;> rfl
end Go.Proofs.YtmecohdedghiaaaDoor
namespace Go.Proofs.YtmecohdedghiaaaDoor
open Go.RowKit
theorem ad_ne {a b c d : Nat} (h : a ≠ c ∨ b ≠ d) : (⟨a, b, none⟩ : Addr) ≠ ⟨c, d, none⟩ := by
 intro e
 injection e with e1 e2
 rcases h with h | h
 ·exact h e1
 ·exact h e2
/-- 2 cells of an own block. -/
def Cells2 (V : World) (D : Nat) (x0 x1 : Value) : Prop :=
 V.cell? ⟨D, 0, none⟩ = some x0 ∧ V.cell? ⟨D, 1, none⟩ = some x1 ∧
 V.frozen? ⟨D, 0, none⟩ = false ∧ V.frozen? ⟨D, 1, none⟩ = false ∧ D < V.heap.size
abbrev setC2 (V : World) (D : Nat) (p0 p1 : Value) : World := (V.setCell ⟨D, 0, none⟩ p0).setCell ⟨D, 1, none⟩ p1
theorem Cells2.new (V : World) (t : TypeId) (x0 x1 : Value) : Cells2 (V.alloc (.cells #[x0, x1] t)) V.heap.size x0 x1 :=
 ⟨by rw [alloc_at]; rfl, by rw [alloc_at]; rfl, by simp, by simp, by simp⟩
theorem Cells2.below {V V' : World} {D : Nat} {x0 x1 : Value} (h : Cells2 V D x0 x1) (hb : Below V.heap.size V V') : Cells2 V' D x0 x1 := by
 obtain ⟨h0, h1, z0, z1, hs⟩ := h
 refine ⟨keep_cell hb h0, keep_cell hb h1, ?_, ?_, Nat.lt_of_lt_of_le hs hb.size⟩
 ·rw [hb.frozen (p := ⟨D, 0, none⟩) hs]; exact z0
 ·rw [hb.frozen (p := ⟨D, 1, none⟩) hs]; exact z1
theorem Cells2.set {V : World} {D : Nat} {x0 x1 : Value} (h : Cells2 V D x0 x1) (p0 p1 : Value) : Cells2 (setC2 V D p0 p1) D p0 p1 := by
 obtain ⟨h0, h1, z0, z1, hs⟩ := h
 refine ⟨st_other (st_same (h0)) (ad_ne (.inr (by decide))), st_same (st_other (h1) (ad_ne (.inr (by decide)))), st_fz (st_fz (z0)), st_fz (st_fz (z1)), ?_⟩
 simpa using hs
/-- 3 cells of an own block. -/
def Cells3 (V : World) (D : Nat) (x0 x1 x2 : Value) : Prop :=
 V.cell? ⟨D, 0, none⟩ = some x0 ∧ V.cell? ⟨D, 1, none⟩ = some x1 ∧ V.cell? ⟨D, 2, none⟩ = some x2 ∧
 V.frozen? ⟨D, 0, none⟩ = false ∧ V.frozen? ⟨D, 1, none⟩ = false ∧ V.frozen? ⟨D, 2, none⟩ = false ∧ D < V.heap.size
abbrev setC3 (V : World) (D : Nat) (p0 p1 p2 : Value) : World := ((V.setCell ⟨D, 0, none⟩ p0).setCell ⟨D, 1, none⟩ p1).setCell ⟨D, 2, none⟩ p2
theorem Cells3.new (V : World) (t : TypeId) (x0 x1 x2 : Value) : Cells3 (V.alloc (.cells #[x0, x1, x2] t)) V.heap.size x0 x1 x2 :=
 ⟨by rw [alloc_at]; rfl, by rw [alloc_at]; rfl, by rw [alloc_at]; rfl, by simp, by simp, by simp, by simp⟩
theorem Cells3.below {V V' : World} {D : Nat} {x0 x1 x2 : Value} (h : Cells3 V D x0 x1 x2) (hb : Below V.heap.size V V') : Cells3 V' D x0 x1 x2 := by
 obtain ⟨h0, h1, h2, z0, z1, z2, hs⟩ := h
 refine ⟨keep_cell hb h0, keep_cell hb h1, keep_cell hb h2, ?_, ?_, ?_, Nat.lt_of_lt_of_le hs hb.size⟩
 ·rw [hb.frozen (p := ⟨D, 0, none⟩) hs]; exact z0
 ·rw [hb.frozen (p := ⟨D, 1, none⟩) hs]; exact z1
 ·rw [hb.frozen (p := ⟨D, 2, none⟩) hs]; exact z2
theorem Cells3.set {V : World} {D : Nat} {x0 x1 x2 : Value} (h : Cells3 V D x0 x1 x2) (p0 p1 p2 : Value) : Cells3 (setC3 V D p0 p1 p2) D p0 p1 p2 := by
 obtain ⟨h0, h1, h2, z0, z1, z2, hs⟩ := h
 refine ⟨st_other (st_other (st_same (h0)) (ad_ne (.inr (by decide)))) (ad_ne (.inr (by decide))), st_other (st_same (st_other (h1) (ad_ne (.inr (by decide))))) (ad_ne (.inr (by decide))), st_same (st_other (st_other (h2) (ad_ne (.inr (by decide)))) (ad_ne (.inr (by decide)))), st_fz (st_fz (st_fz (z0))), st_fz (st_fz (st_fz (z1))), st_fz (st_fz (st_fz (z2))), ?_⟩
 simpa using hs
end Go.Proofs.YtmecohdedghiaaaDoor
namespace Go.Proofs.YtmecohdedghiaaaDoor
open Go.RowKit
/-- 6 cells of an own block. -/
def Cells6 (V : World) (D : Nat) (x0 x1 x2 x3 x4 x5 : Value) : Prop :=
 V.cell? ⟨D, 0, none⟩ = some x0 ∧ V.cell? ⟨D, 1, none⟩ = some x1 ∧ V.cell? ⟨D, 2, none⟩ = some x2 ∧ V.cell? ⟨D, 3, none⟩ = some x3 ∧ V.cell? ⟨D, 4, none⟩ = some x4 ∧ V.cell? ⟨D, 5, none⟩ = some x5 ∧
 V.frozen? ⟨D, 0, none⟩ = false ∧ V.frozen? ⟨D, 1, none⟩ = false ∧ V.frozen? ⟨D, 2, none⟩ = false ∧ V.frozen? ⟨D, 3, none⟩ = false ∧ V.frozen? ⟨D, 4, none⟩ = false ∧ V.frozen? ⟨D, 5, none⟩ = false ∧ D < V.heap.size
theorem Cells6.new (V : World) (t : TypeId) (x0 x1 x2 x3 x4 x5 : Value) : Cells6 (V.alloc (.cells #[x0, x1, x2, x3, x4, x5] t)) V.heap.size x0 x1 x2 x3 x4 x5 :=
 ⟨by rw [alloc_at]; rfl, by rw [alloc_at]; rfl, by rw [alloc_at]; rfl, by rw [alloc_at]; rfl, by rw [alloc_at]; rfl, by rw [alloc_at]; rfl, by simp, by simp, by simp, by simp, by simp, by simp, by simp⟩
theorem Cells6.below {V V' : World} {D : Nat} {x0 x1 x2 x3 x4 x5 : Value} (h : Cells6 V D x0 x1 x2 x3 x4 x5) (hb : Below V.heap.size V V') : Cells6 V' D x0 x1 x2 x3 x4 x5 := by
 obtain ⟨h0, h1, h2, h3, h4, h5, z0, z1, z2, z3, z4, z5, hs⟩ := h
 refine ⟨keep_cell hb h0, keep_cell hb h1, keep_cell hb h2, keep_cell hb h3, keep_cell hb h4, keep_cell hb h5, ?_, ?_, ?_, ?_, ?_, ?_, Nat.lt_of_lt_of_le hs hb.size⟩
 ·rw [hb.frozen (p := ⟨D, 0, none⟩) hs]; exact z0
 ·rw [hb.frozen (p := ⟨D, 1, none⟩) hs]; exact z1
 ·rw [hb.frozen (p := ⟨D, 2, none⟩) hs]; exact z2
 ·rw [hb.frozen (p := ⟨D, 3, none⟩) hs]; exact z3
 ·rw [hb.frozen (p := ⟨D, 4, none⟩) hs]; exact z4
 ·rw [hb.frozen (p := ⟨D, 5, none⟩) hs]; exact z5
theorem Cells6.set {V : World} {D : Nat} {x0 x1 x2 x3 x4 x5 : Value} (h : Cells6 V D x0 x1 x2 x3 x4 x5) (p0 p1 p2 p3 p4 p5 : Value) : Cells6 ((((((V.setCell ⟨D, 0, none⟩ p0).setCell ⟨D, 1, none⟩ p1).setCell ⟨D, 2, none⟩ p2).setCell ⟨D, 3, none⟩ p3).setCell ⟨D, 4, none⟩ p4).setCell ⟨D, 5, none⟩ p5) D p0 p1 p2 p3 p4 p5 := by
 obtain ⟨h0, h1, h2, h3, h4, h5, z0, z1, z2, z3, z4, z5, hs⟩ := h
 refine ⟨st_other (st_other (st_other (st_other (st_other (st_same (h0)) (ad_ne (.inr (by decide)))) (ad_ne (.inr (by decide)))) (ad_ne (.inr (by decide)))) (ad_ne (.inr (by decide)))) (ad_ne (.inr (by decide))), st_other (st_other (st_other (st_other (st_same (st_other (h1) (ad_ne (.inr (by decide))))) (ad_ne (.inr (by decide)))) (ad_ne (.inr (by decide)))) (ad_ne (.inr (by decide)))) (ad_ne (.inr (by decide))), st_other (st_other (st_other (st_same (st_other (st_other (h2) (ad_ne (.inr (by decide)))) (ad_ne (.inr (by decide))))) (ad_ne (.inr (by decide)))) (ad_ne (.inr (by decide)))) (ad_ne (.inr (by decide))), st_other (st_other (st_same (st_other (st_other (st_other (h3) (ad_ne (.inr (by decide)))) (ad_ne (.inr (by decide)))) (ad_ne (.inr (by decide))))) (ad_ne (.inr (by decide)))) (ad_ne (.inr (by decide))), st_other (st_same (st_other (st_other (st_other (st_other (h4) (ad_ne (.inr (by decide)))) (ad_ne (.inr (by decide)))) (ad_ne (.inr (by decide)))) (ad_ne (.inr (by decide))))) (ad_ne (.inr (by decide))), st_same (st_other (st_other (st_other (st_other (st_other (h5) (ad_ne (.inr (by decide)))) (ad_ne (.inr (by decide)))) (ad_ne (.inr (by decide)))) (ad_ne (.inr (by decide)))) (ad_ne (.inr (by decide)))), st_fz (st_fz (st_fz (st_fz (st_fz (st_fz (z0)))))), st_fz (st_fz (st_fz (st_fz (st_fz (st_fz (z1)))))), st_fz (st_fz (st_fz (st_fz (st_fz (st_fz (z2)))))), st_fz (st_fz (st_fz (st_fz (st_fz (st_fz (z3)))))), st_fz (st_fz (st_fz (st_fz (st_fz (st_fz (z4)))))), st_fz (st_fz (st_fz (st_fz (st_fz (st_fz (z5)))))), ?_⟩
 simpa using hs
theorem Cells6.s {V : World} {D : Nat} {x0 x1 x2 x3 x4 x5 : Value} (h : Cells6 V D x0 x1 x2 x3 x4 x5) (p : Value) : Cells6 (V.setCell ⟨D, 0, none⟩ p) D p x1 x2 x3 x4 x5 ∧ Cells6 (V.setCell ⟨D, 1, none⟩ p) D x0 p x2 x3 x4 x5 ∧ Cells6 (V.setCell ⟨D, 2, none⟩ p) D x0 x1 p x3 x4 x5 ∧
  Cells6 (V.setCell ⟨D, 3, none⟩ p) D x0 x1 x2 p x4 x5 ∧ Cells6 (V.setCell ⟨D, 4, none⟩ p) D x0 x1 x2 x3 p x5 ∧ Cells6 (V.setCell ⟨D, 5, none⟩ p) D x0 x1 x2 x3 x4 p := by
 obtain ⟨h0, h1, h2, h3, h4, h5, z0, z1, z2, z3, z4, z5, hs⟩ := h
 have ne : ∀ {i j : Nat}, i ≠ j → (⟨D, i, none⟩ : Addr) ≠ ⟨D, j, none⟩ := fun h => ad_ne (.inr h)
 exact ⟨⟨st_same h0, st_other h1 (ne (by decide)), st_other h2 (ne (by decide)), st_other h3 (ne (by decide)), st_other h4 (ne (by decide)), st_other h5 (ne (by decide)), st_fz z0, st_fz z1, st_fz z2, st_fz z3, st_fz z4, st_fz z5, by simpa using hs⟩,
  ⟨st_other h0 (ne (by decide)), st_same h1, st_other h2 (ne (by decide)), st_other h3 (ne (by decide)), st_other h4 (ne (by decide)), st_other h5 (ne (by decide)), st_fz z0, st_fz z1, st_fz z2, st_fz z3, st_fz z4, st_fz z5, by simpa using hs⟩,
  ⟨st_other h0 (ne (by decide)), st_other h1 (ne (by decide)), st_same h2, st_other h3 (ne (by decide)), st_other h4 (ne (by decide)), st_other h5 (ne (by decide)), st_fz z0, st_fz z1, st_fz z2, st_fz z3, st_fz z4, st_fz z5, by simpa using hs⟩,
  ⟨st_other h0 (ne (by decide)), st_other h1 (ne (by decide)), st_other h2 (ne (by decide)), st_same h3, st_other h4 (ne (by decide)), st_other h5 (ne (by decide)), st_fz z0, st_fz z1, st_fz z2, st_fz z3, st_fz z4, st_fz z5, by simpa using hs⟩,
  ⟨st_other h0 (ne (by decide)), st_other h1 (ne (by decide)), st_other h2 (ne (by decide)), st_other h3 (ne (by decide)), st_same h4, st_other h5 (ne (by decide)), st_fz z0, st_fz z1, st_fz z2, st_fz z3, st_fz z4, st_fz z5, by simpa using hs⟩,
  ⟨st_other h0 (ne (by decide)), st_other h1 (ne (by decide)), st_other h2 (ne (by decide)), st_other h3 (ne (by decide)), st_other h4 (ne (by decide)), st_same h5, st_fz z0, st_fz z1, st_fz z2, st_fz z3, st_fz z4, st_fz z5, by simpa using hs⟩⟩
end Go.Proofs.YtmecohdedghiaaaDoor
namespace Go.Proofs.YtmecohdedghiaaaDoor.Cel
open Go.RowKit
theorem ad_ne {b b' o o' : Nat} (h : b ≠ b' ∨ o ≠ o') : (⟨b, o, none⟩ : Addr) ≠ ⟨b', o', none⟩ := by
 intro e
 cases e
 rcases h with h | h <;> exact h rfl
end Go.Proofs.YtmecohdedghiaaaDoor.Cel
namespace Go.Proofs.YtmecohdedghiaaaDoor.Tp
open Go.RowKit
/-- A tip. -/
abbrev tpV (s b : Int) : Value := .agg #[.int .i64 s, .int .i64 b]
def armB (b : Int) : Bool := decide (1 ≤ b ∧ b ≤ 8)
/-- The state of a tip, 0 where it is not right. -/
def ofV (s b : Int) : Int := if (s = 1 ∨ s = 3) ∧ b = 0 then s else if s = 2 ∧ 1 ≤ b ∧ b ≤ 8 then 2 else 0
end Go.Proofs.YtmecohdedghiaaaDoor.Tp
namespace Go.Proofs.YtmecohdedghiaaaDoor.Tp
open Go.RowKit
end Go.Proofs.YtmecohdedghiaaaDoor.Tp
namespace Go.Proofs.YtmecohdedghiaaaDoor.Tp
open Go.RowKit
end Go.Proofs.YtmecohdedghiaaaDoor.Tp
namespace Go.Proofs.YtmecohdedghiaaaDoor
open Go.RowKit
def ceCells (q : Cel.Ce) : List Value := [.int .i64 q.a, .int .i64 q.b, .int .i64 q.c]
def ce0 : Cel.Ce := ⟨0, 0, 0⟩
/-- A log: its room, its last version, where its changes lie, and which they are. -/
structure Lo where
 r : Int
 l : Int
 A : Option Addr
 c : Nat
 xs : List Ch
def loCells (q : Lo) : List Value := [.int .i64 q.r, .int .i64 q.l, .slice q.A q.xs.length q.c]
def lo0 : Lo := ⟨0, 0, none, 0, []⟩
/-- 4 cells of an own block. -/
def Cells4 (V : World) (D : Nat) (x0 x1 x2 x3 : Value) : Prop :=
 V.cell? ⟨D, 0, none⟩ = some x0 ∧ V.cell? ⟨D, 1, none⟩ = some x1 ∧ V.cell? ⟨D, 2, none⟩ = some x2 ∧ V.cell? ⟨D, 3, none⟩ = some x3 ∧
 V.frozen? ⟨D, 0, none⟩ = false ∧ V.frozen? ⟨D, 1, none⟩ = false ∧ V.frozen? ⟨D, 2, none⟩ = false ∧ V.frozen? ⟨D, 3, none⟩ = false ∧ D < V.heap.size
theorem Cells4.new (V : World) (t : TypeId) (x0 x1 x2 x3 : Value) : Cells4 (V.alloc (.cells #[x0, x1, x2, x3] t)) V.heap.size x0 x1 x2 x3 :=
 ⟨by rw [alloc_at]; rfl, by rw [alloc_at]; rfl, by rw [alloc_at]; rfl, by rw [alloc_at]; rfl, by simp, by simp, by simp, by simp, by simp⟩
theorem Cells4.below {V V' : World} {D : Nat} {x0 x1 x2 x3 : Value} (h : Cells4 V D x0 x1 x2 x3) (hb : Below V.heap.size V V') : Cells4 V' D x0 x1 x2 x3 := by
 obtain ⟨h0, h1, h2, h3, z0, z1, z2, z3, hs⟩ := h
 refine ⟨keep_cell hb h0, keep_cell hb h1, keep_cell hb h2, keep_cell hb h3, ?_, ?_, ?_, ?_, Nat.lt_of_lt_of_le hs hb.size⟩
 ·rw [hb.frozen (p := ⟨D, 0, none⟩) hs]; exact z0
 ·rw [hb.frozen (p := ⟨D, 1, none⟩) hs]; exact z1
 ·rw [hb.frozen (p := ⟨D, 2, none⟩) hs]; exact z2
 ·rw [hb.frozen (p := ⟨D, 3, none⟩) hs]; exact z3
theorem Cells4.set {V : World} {D : Nat} {x0 x1 x2 x3 : Value} (h : Cells4 V D x0 x1 x2 x3) (p0 p1 p2 p3 : Value) : Cells4 ((((V.setCell ⟨D, 0, none⟩ p0).setCell ⟨D, 1, none⟩ p1).setCell ⟨D, 2, none⟩ p2).setCell ⟨D, 3, none⟩ p3) D p0 p1 p2 p3 := by
 obtain ⟨h0, h1, h2, h3, z0, z1, z2, z3, hs⟩ := h
 refine ⟨st_other (st_other (st_other (st_same (h0)) (ad_ne (.inr (by decide)))) (ad_ne (.inr (by decide)))) (ad_ne (.inr (by decide))), st_other (st_other (st_same (st_other (h1) (ad_ne (.inr (by decide))))) (ad_ne (.inr (by decide)))) (ad_ne (.inr (by decide))), st_other (st_same (st_other (st_other (h2) (ad_ne (.inr (by decide)))) (ad_ne (.inr (by decide))))) (ad_ne (.inr (by decide))), st_same (st_other (st_other (st_other (h3) (ad_ne (.inr (by decide)))) (ad_ne (.inr (by decide)))) (ad_ne (.inr (by decide)))), st_fz (st_fz (st_fz (st_fz (z0)))), st_fz (st_fz (st_fz (st_fz (z1)))), st_fz (st_fz (st_fz (st_fz (z2)))), st_fz (st_fz (st_fz (st_fz (z3)))), ?_⟩
 simpa using hs
theorem Cells6.off {V : World} {D G o : Nat} {x0 x1 x2 x3 x4 x5 : Value} (h : Cells6 V G x0 x1 x2 x3 x4 x5) (hne : D ≠ G) (p : Value) : Cells6 (V.setCell ⟨D, o, none⟩ p) G x0 x1 x2 x3 x4 x5 := by
 obtain ⟨h0, h1, h2, h3, h4, h5, z0, z1, z2, z3, z4, z5, hs⟩ := h
 exact ⟨st_other h0 (ad_ne (.inl hne)), st_other h1 (ad_ne (.inl hne)), st_other h2 (ad_ne (.inl hne)), st_other h3 (ad_ne (.inl hne)), st_other h4 (ad_ne (.inl hne)), st_other h5 (ad_ne (.inl hne)), st_fz z0, st_fz z1, st_fz z2, st_fz z3, st_fz z4, st_fz z5, by simpa using hs⟩
theorem Cells4.off {V : World} {D G o : Nat} {x0 x1 x2 x3 : Value} (h : Cells4 V G x0 x1 x2 x3) (hne : D ≠ G) (p : Value) : Cells4 (V.setCell ⟨D, o, none⟩ p) G x0 x1 x2 x3 := by
 obtain ⟨h0, h1, h2, h3, z0, z1, z2, z3, hs⟩ := h
 exact ⟨st_other h0 (ad_ne (.inl hne)), st_other h1 (ad_ne (.inl hne)), st_other h2 (ad_ne (.inl hne)), st_other h3 (ad_ne (.inl hne)), st_fz z0, st_fz z1, st_fz z2, st_fz z3, by simpa using hs⟩
abbrev DkAt (V : World) (D : Nat) (d : Dk) : Prop := Cells4 V D (.slice d.bA d.bn d.bc) (.slice d.pA d.pn d.pc) (.slice d.rA d.rn d.rc) (.int .i64 d.arms)
end Go.Proofs.YtmecohdedghiaaaDoor
