/- Sets looked at; a number put into a set. -/
import Derived.Test.YtbflkdkbfidleaaTA
import Derived.Deep.QuietTactic
import Derived.BigQuiet
import Derived.Deep.RegionHeld3
namespace Go.Proofs.Ytbflkdkbfidleaa.Two
open Go.RowKit

theorem take_getD (l : List Int) (k : Nat) (h : k < l.length) : l.take (k + 1) = l.take k ++ [l.getD k 0] := by
  rw [List.take_succ_eq_append_getElem h, List.getD_eq_getElem?_getD, List.getElem?_eq_getElem h]
  rfl
theorem getD_mem (l : List Int) (k : Nat) (h : k < l.length) : l.getD k 0 ∈ l := by
  rw [List.getD_eq_getElem?_getD, List.getElem?_eq_getElem h]
  exact List.getElem_mem h
theorem inc_getD {l : List Int} (h : Inc l) (i j : Nat) (hij : i < j) (hj : j < l.length) : l.getD i 0 < l.getD j 0 := by
  rw [List.getD_eq_getElem?_getD, List.getD_eq_getElem?_getD, List.getElem?_eq_getElem hj, List.getElem?_eq_getElem (by omega)]
  exact List.pairwise_iff_getElem.1 h i j (by omega) hj hij
theorem inc_next {l : List Int} (k : Nat) (hk : k + 1 < l.length) (h : Inc (l.take (k + 1))) (hx : l.getD k 0 < l.getD (k + 1) 0) : Inc (l.take (k + 2)) := by
  rw [take_getD l (k + 1) hk]
  refine inc_snoc h fun y hy => ?_
  rw [take_getD l k (by omega)] at h hy
  rcases List.mem_append.1 hy with hy | hy
  · have := (inc_append.1 h).2.2 y hy (l.getD k 0) (by simp)
    omega
  · have : y = l.getD k 0 := by simpa using hy
    omega
theorem IsL.takeLit {w : World} {B b off cap : Nat} {xs : List Int} (hb : b < B) (hc : ∀ i, i < xs.length → w.cell? ⟨b, off + i, none⟩ = some (.int .i64 (xs.getD i 0))) (hf : ∀ x ∈ xs, fits x) (k : Nat) (hk : k ≤ xs.length) (hcap : k ≤ cap) (hl : xs.length ≤ 9223372036854775807) :
    IsL w B (.slice (some ⟨b, off, none⟩) k cap) (xs.take k) := by
  have e : (xs.take k).length = k := by rw [List.length_take]; omega
  refine ⟨⟨_, cap, by rw [e], by omega, fun _ => ⟨b, off, rfl, hb, fun i hi => ?_⟩⟩, fun x hx => hf x (List.mem_of_mem_take hx), by omega⟩
  rw [e] at hi
  rw [hc i (by omega), List.getD_eq_getElem?_getD, List.getD_eq_getElem?_getD, List.getElem?_take, if_pos hi]
theorem IsL.dropLit {w : World} {B b off cap : Nat} {xs : List Int} (hb : b < B) (hc : ∀ i, i < xs.length → w.cell? ⟨b, off + i, none⟩ = some (.int .i64 (xs.getD i 0))) (hf : ∀ x ∈ xs, fits x) (k : Nat) (hk : k ≤ xs.length) (hcap : xs.length ≤ cap) (hl : xs.length ≤ 9223372036854775807) :
    (cap = k → IsL w B (.slice (some ⟨b, off, none⟩) (xs.length - k) (cap - k)) (xs.drop k)) ∧ IsL w B (.slice (some ⟨b, off + k, none⟩) (xs.length - k) (cap - k)) (xs.drop k) := by
  have e : (xs.drop k).length = xs.length - k := List.length_drop
  refine ⟨fun h => ⟨⟨_, cap - k, by rw [e], by omega, fun h0 => by omega⟩, fun x hx => hf x (List.mem_of_mem_drop hx), by omega⟩, ⟨⟨_, cap - k, by rw [e], by omega, fun _ => ⟨b, off + k, rfl, hb, fun i hi => ?_⟩⟩, fun x hx => hf x (List.mem_of_mem_drop hx), by omega⟩⟩
  rw [show off + k + i = off + (k + i) by omega, hc (k + i) (by omega), List.getD_eq_getElem?_getD, List.getD_eq_getElem?_getD, List.getElem?_drop]

set_option maxRecDepth 100000 in
set_option maxHeartbeats 1000000 in
theorem in_any (v : Value) (xs : List Int) (n : Int) (w : World) (h : IsL w w.heap.size v xs) : Calls Try.prog 39 #[v, .int .i64 n] w fun e w' => e = .returned (.bool (decide (n ∈ xs))) ∧ w = w' := by
  obtain ⟨⟨A, cap, rfl, hcap, hA⟩, hfit, hlen⟩ := h
  have HA := Lib.hid hA
  clear hA hfit
  go_enter Try.func39, Try.ntmps39
  go_wp2
  go_loop [5] (fun i => ∃ k : Nat, k ≤ xs.length ∧ n ∉ xs.take k ∧ i = .int .i64 (k : Int)) (fun i => xs.length - (intOf i).toNat)
  case atStart => exact ⟨0, Nat.zero_le _, by simp, rfl⟩
  case round =>
    obtain ⟨k, hk, hni, rfl⟩ := hrel
    have HN := Lib.hid hni
    clear hni
    by_cases hlt : k < xs.length
    · obtain ⟨b, off, rfl, hb, hcell⟩ := HA.out (by omega)
      have hx := hcell k hlt
      have HTK := Lib.hid (take_getD xs k hlt)
      have HM := Lib.hid (getD_mem xs k hlt)
      clear hcell
      generalize xs.getD k 0 = x at *
      by_cases hxn : x = n
      · have hbq : (x == n) = true := by rw [beq_iff_eq]; exact hxn
        have HX := Lib.hid hxn
        clear hxn
        go_wp2
        go_ret
        have e := HX.out
        have m := HM.out
        exact ⟨ret_b (by rw [decide_eq_true (e ▸ m)]), rfl⟩
      · have hbq : (x == n) = false := by rw [beq_eq_false_iff_ne]; exact hxn
        have HX := Lib.hid hxn
        clear hxn
        go_wp2
        go_round
        case rel =>
          refine ⟨k + 1, by omega, ?_, num_i (by omega)⟩
          rw [HTK.out, List.mem_append]
          intro hh
          rcases hh with hh | hh
          · exact HN.out hh
          · simp at hh; exact HX.out hh.symm
        case measure => simp [intOf]; omega
    · obtain rfl : k = xs.length := by omega
      go_wp2
      go_ret
      have e := HN.out
      rw [List.take_length] at e
      exact ⟨ret_b (by rw [decide_eq_false e]), rfl⟩

set_option maxRecDepth 100000 in
set_option maxHeartbeats 1000000 in
theorem right_any (v : Value) (xs : List Int) (w : World) (h : IsL w w.heap.size v xs) : Calls Try.prog 51 #[v] w fun e w' => e = .returned (.bool (decide (Inc xs))) ∧ ∃ d, w' = w.drewN d := by
  obtain ⟨⟨A, cap, rfl, hcap, hA⟩, hfit, hlen⟩ := h
  have HA := Lib.hid hA
  clear hA hfit
  go_enter Try.func51, Try.ntmps51
  go_wp2
  go_loopw [3] (fun i wr => ∃ j d : Nat, (j + 1 ≤ xs.length ∨ j = 0) ∧ Inc (xs.take (j + 1)) ∧ i = .int .i64 ((j : Int) + 1) ∧ wr = w.drewN d) (fun i _ => xs.length - (intOf i).toNat)
  case atStart =>
    refine ⟨0, 0, Or.inr rfl, ?_, rfl, rfl⟩
    match xs with
    | [] => exact inc_nil
    | x :: r => exact List.pairwise_singleton _ _
  case round =>
    obtain ⟨j, d, hj, hinc, rfl, hw⟩ := hrel
    have HI := Lib.hid hinc
    have HW := Lib.hid hw
    clear hinc
    by_cases hlt : j + 1 < xs.length
    · obtain ⟨b, off, rfl, hb, hcell⟩ := HA.out (by omega)
      have hx : wr.cell? ⟨b, off + j, none⟩ = some (.int .i64 (xs.getD j 0)) := by rw [hw]; exact hcell j (by omega)
      have hy : wr.cell? ⟨b, off + (j + 1), none⟩ = some (.int .i64 (xs.getD (j + 1) 0)) := by rw [hw]; exact hcell (j + 1) (by omega)
      have HNX := Lib.hid (inc_next (l := xs) j hlt)
      have HNG := Lib.hid (fun hi : Inc xs => inc_getD hi j (j + 1) (by omega) hlt)
      clear hcell hw
      generalize xs.getD j 0 = x at *
      generalize xs.getD (j + 1) 0 = y at *
      by_cases hxy : y ≤ x
      · have HX := Lib.hid hxy
        go_wp2
        go_quiet (fail)
        go_wp2
        go_ret
        refine ⟨ret_b ?_, by rw [HW.out]; exact ⟨_, World.drewN_drewN _ _ _⟩⟩
        rw [decide_eq_false]
        intro hi
        have := HNG.out hi
        have := HX.out
        omega
      · have HX := Lib.hid hxy
        go_wp2
        go_quiet (fail)
        go_wp2
        go_roundw
        case rel => exact ⟨j + 1, _, Or.inl (by omega), HNX.out HI.out (by have := HX.out; omega), num_i (by omega), by rw [HW.out]; exact World.drewN_drewN _ _ _⟩
        case measure => simp [intOf]; omega
    · have e := HI.out
      rw [List.take_of_length_le (by omega)] at e
      have HE := Lib.hid (decide_eq_true e)
      clear e hw
      go_wp2
      go_ret
      exact ⟨ret_b HE.out.symm, d, HW.out⟩
end Go.Proofs.Ytbflkdkbfidleaa.Two
namespace Go.Proofs.Ytbflkdkbfidleaa.Two
open Go.RowKit

set_option maxRecDepth 100000 in
set_option maxHeartbeats 1000000 in
theorem rright_any (v : Value) (xs : List Int) (w : World) (h : IsL w w.heap.size v xs) : Calls Try.prog 54 #[v] w fun e w' => e = .returned (.bool (decide (Inc xs))) ∧ ∃ d, w' = w.drewN d := by
  obtain ⟨⟨A, cap, rfl, hcap, hA⟩, hfit, hlen⟩ := h
  have HA := Lib.hid hA
  clear hA hfit
  go_enter Try.func54, Try.ntmps54
  go_wp2
  go_loopw [3] (fun i wr => ∃ j d : Nat, (j + 1 ≤ xs.length ∨ j = 0) ∧ Inc (xs.take (j + 1)) ∧ i = .int .i64 ((j : Int) + 1) ∧ wr = w.drewN d) (fun i _ => xs.length - (intOf i).toNat)
  case atStart =>
    refine ⟨0, 0, Or.inr rfl, ?_, rfl, rfl⟩
    match xs with
    | [] => exact inc_nil
    | x :: r => exact List.pairwise_singleton _ _
  case round =>
    obtain ⟨j, d, hj, hinc, rfl, hw⟩ := hrel
    have HI := Lib.hid hinc
    have HW := Lib.hid hw
    clear hinc
    by_cases hlt : j + 1 < xs.length
    · obtain ⟨b, off, rfl, hb, hcell⟩ := HA.out (by omega)
      have hx : wr.cell? ⟨b, off + j, none⟩ = some (.int .i64 (xs.getD j 0)) := by rw [hw]; exact hcell j (by omega)
      have hy : wr.cell? ⟨b, off + (j + 1), none⟩ = some (.int .i64 (xs.getD (j + 1) 0)) := by rw [hw]; exact hcell (j + 1) (by omega)
      have HNX := Lib.hid (inc_next (l := xs) j hlt)
      have HNG := Lib.hid (fun hi : Inc xs => inc_getD hi j (j + 1) (by omega) hlt)
      clear hcell hw
      generalize xs.getD j 0 = x at *
      generalize xs.getD (j + 1) 0 = y at *
      by_cases hxy : y ≤ x
      · have HX := Lib.hid hxy
        go_wp2
        go_quiet (fail)
        go_wp2
        go_ret
        refine ⟨ret_b ?_, by rw [HW.out]; exact ⟨_, World.drewN_drewN _ _ _⟩⟩
        rw [decide_eq_false]
        intro hi
        have := HNG.out hi
        have := HX.out
        omega
      · have HX := Lib.hid hxy
        go_wp2
        go_quiet (fail)
        go_wp2
        go_roundw
        case rel => exact ⟨j + 1, _, Or.inl (by omega), HNX.out HI.out (by have := HX.out; omega), num_i (by omega), by rw [HW.out]; exact World.drewN_drewN _ _ _⟩
        case measure => simp [intOf]; omega
    · have e := HI.out
      rw [List.take_of_length_le (by omega)] at e
      have HE := Lib.hid (decide_eq_true e)
      clear e hw
      go_wp2
      go_ret
      exact ⟨ret_b HE.out.symm, d, HW.out⟩

set_option maxRecDepth 100000 in
set_option maxHeartbeats 1000000 in
theorem same_any (v u : Value) (xs ys : List Int) (w : World) (h : IsL w w.heap.size v xs) (hy : IsL w w.heap.size u ys) : Calls Try.prog 16 #[v, u] w fun e w' => e = .returned (.bool (decide (xs = ys))) ∧ ∃ d, w' = w.drewN d := by
  obtain ⟨⟨A, cap, rfl, hcap, hA⟩, hfit, hlen⟩ := h
  obtain ⟨⟨A2, cap2, rfl, hcap2, hA2⟩, hfit2, hlen2⟩ := hy
  have HA := Lib.hid hA
  have HA2 := Lib.hid hA2
  clear hA hfit hA2 hfit2
  by_cases hl : xs.length = ys.length
  · rw [← hl] at HA2 ⊢
    have HL := Lib.hid hl
    clear hl
    go_enter Try.func16, Try.ntmps16
    go_wp2
    go_loopw [5] (fun i wr => ∃ k d : Nat, k ≤ xs.length ∧ xs.take k = ys.take k ∧ i = .int .i64 (k : Int) ∧ wr = w.drewN d) (fun i _ => xs.length - (intOf i).toNat)
    case atStart => exact ⟨0, 0, Nat.zero_le _, rfl, rfl, rfl⟩
    case round =>
      obtain ⟨k, d, hk, hsame, rfl, hw⟩ := hrel
      have HS := Lib.hid hsame
      have HW := Lib.hid hw
      clear hsame
      by_cases hlt : k < xs.length
      · obtain ⟨b, off, rfl, hb, hcell⟩ := HA.out (by omega)
        obtain ⟨b2, off2, rfl, hb2, hcell2⟩ := HA2.out (by omega)
        have hx : wr.cell? ⟨b, off + k, none⟩ = some (.int .i64 (xs.getD k 0)) := by rw [hw]; exact hcell k hlt
        have hy : wr.cell? ⟨b2, off2 + k, none⟩ = some (.int .i64 (ys.getD k 0)) := by rw [hw]; exact hcell2 k hlt
        have HT := Lib.hid (take_getD xs k hlt)
        have HT2 := Lib.hid (take_getD ys k (by have := HL.out; omega))
        have HXY := Lib.hid (fun e : xs = ys => show xs.getD k 0 = ys.getD k 0 by rw [e])
        clear hcell hcell2 hw
        generalize xs.getD k 0 = x at *
        generalize ys.getD k 0 = y at *
        by_cases hxy : x = y
        · subst hxy
          go_wp2
          go_quiet (fail)
          go_wp2
          go_roundw
          case rel => exact ⟨k + 1, _, by omega, by rw [HT.out, HT2.out, HS.out], num_i (by omega), by rw [HW.out]; exact World.drewN_drewN _ _ _⟩
          case measure => simp [intOf]; omega
        · have hbq : (x != y) = true := by rw [bne_iff_ne]; exact hxy
          have HX := Lib.hid hxy
          clear hxy
          go_wp2
          go_quiet (fail)
          go_wp2
          go_ret
          refine ⟨ret_b ?_, by rw [HW.out]; exact ⟨_, World.drewN_drewN _ _ _⟩⟩
          rw [decide_eq_false]
          exact fun e => HX.out (HXY.out e)
      · obtain rfl : k = xs.length := by omega
        have e := HS.out
        rw [List.take_length, List.take_of_length_le (by have := HL.out; omega)] at e
        have HE := Lib.hid (decide_eq_true e)
        clear e hw
        go_wp2
        go_ret
        exact ⟨ret_b HE.out.symm, d, HW.out⟩
  · have hbq : ((xs.length : Int) != (ys.length : Int)) = true := by rw [bne_iff_ne]; omega
    have HL := Lib.hid hl
    clear hl
    go_enter Try.func16, Try.ntmps16
    go_wp2
    go_ret
    refine ⟨ret_b ?_, 0, by trivial⟩
    rw [decide_eq_false]
    intro e
    exact HL.out (by rw [e])

/-- Where a number lies in a rising list. -/
theorem has_low {l : List Int} {n : Int} (h : Inc l) (k : Nat) (hk : k < l.length) (hx : l.getD k 0 < n) : n ∈ l ↔ n ∈ l.drop (k + 1) := by
  constructor
  · intro hn
    have e : l = l.take (k + 1) ++ l.drop (k + 1) := (List.take_append_drop _ _).symm
    rw [e] at hn
    rcases List.mem_append.1 hn with hn | hn
    · rw [take_getD l k hk] at hn
      rcases List.mem_append.1 hn with hn | hn
      · have h2 := inc_take (k + 1) h
        rw [take_getD l k hk] at h2
        have := (inc_append.1 h2).2.2 n hn (l.getD k 0) (by simp)
        omega
      · have : n = l.getD k 0 := by simpa using hn
        omega
    · exact hn
  · exact List.mem_of_mem_drop
theorem has_high {l : List Int} {n : Int} (h : Inc l) (k : Nat) (hk : k < l.length) (hx : n < l.getD k 0) : n ∈ l ↔ n ∈ l.take k := by
  constructor
  · intro hn
    have e : l = l.take k ++ l.drop k := (List.take_append_drop _ _).symm
    rw [e] at hn
    rcases List.mem_append.1 hn with hn | hn
    · exact hn
    · have e2 : l.drop k = l.getD k 0 :: l.drop (k + 1) := by
        rw [List.drop_eq_getElem_cons hk, List.getD_eq_getElem?_getD, List.getElem?_eq_getElem hk]
        rfl
      have h2 := inc_drop k h
      rw [e2] at hn h2
      rcases List.mem_cons.1 hn with hn | hn
      · omega
      · have := (inc_cons.1 h2).1 n hn
        omega
  · exact List.mem_of_mem_take
theorem IsL.dropIf {w : World} {B b off cap : Nat} {xs : List Int} (hb : b < B) (hc : ∀ i, i < xs.length → w.cell? ⟨b, off + i, none⟩ = some (.int .i64 (xs.getD i 0))) (hf : ∀ x ∈ xs, fits x) (k : Nat) (hk : k ≤ xs.length) (hcap : xs.length ≤ cap) (hl : xs.length ≤ 9223372036854775807) :
    IsL w B (.slice (if cap = k then some ⟨b, off, none⟩ else some ⟨b, off + k, none⟩) (xs.length - k) (cap - k)) (xs.drop k) := by
  have h := IsL.dropLit hb hc hf k hk hcap hl
  by_cases e : cap = k
  · rw [if_pos e]; exact h.1 e
  · rw [if_neg e]; exact h.2
end Go.Proofs.Ytbflkdkbfidleaa.Two
namespace Go.Proofs.Ytbflkdkbfidleaa.Two
open Go.RowKit

theorem step_app {w : World} {ops : Array Oper} {o : Oper} {a : Act} {K : Act → World → Prop} {Q : Exit → Act → World → Prop} {E : Prop} (hgd : o.guard = none) (s x : Operand)
    (ho : o.op = .call { callee := .builtin .append, args := #[s, x], argTypes := #[22, 22] }) (base B : Nat) (v src : Value) (xs ys : List Int) (hs : a.eval s = v) (hx : a.eval x = src)
    (h : Own w base v xs) (hy : IsL w B src ys) (hl : xs.length + ys.length ≤ 1000000) (hb : base ≤ w.heap.size)
    (hk : ∀ v' w', Own w' base v' (xs ++ ys) → w.grownBy w' v.ownBlock → K (a.put o.dst v') w') : if Region.wanted o (yielded ops a.tmps) = true then Oper.wp Try.prog o a w K Q else E := by
  have hw : Region.wanted o (yielded ops a.tmps) = true := by simp [Region.wanted, hgd]
  rw [if_pos hw]
  exact wp_app w s x ho base B v src xs ys hs hx h hy hl hb fun v' w' k1 k2 _ => hk v' w' k1 k2
theorem own_empty {W : World} {S : Nat} (hS : S ≤ W.heap.size) : Own (W.alloc (.cells #[] 3)) S (.slice (some ⟨W.heap.size, 0, none⟩) 0 0) [] := Own.made W S 0 #[] hS (by unfold maxLen; omega) rfl
/-- An empty slice and a slice of one number, made in whichever order. -/
structure Made (X W : World) (H : Nat) : Prop where
  own : Own W X.heap.size (.slice (some ⟨H, 0, none⟩) 0 0) []
  below : Below X.heap.size X W
  size : X.heap.size ≤ W.heap.size
theorem made_A (X : World) : Made X (X.alloc (.cells #[] 3)).drew X.heap.size :=
  ⟨own_empty (W := X) (Nat.le_refl _), ((Below.refl _ X).alloc (Nat.le_refl _) _).drew, by simp⟩
theorem made_B (X : World) (x : Int) : Made X ((X.alloc (.cells #[] 3)).alloc (.cells #[.int .i64 x] 3)).drew X.heap.size :=
  ⟨(own_empty (W := X) (Nat.le_refl _)).alloc _, (((Below.refl _ X).alloc (Nat.le_refl _) _).alloc (by simp) _).drew, by simp; omega⟩
theorem made_C (X : World) (x : Int) : Made X ((X.alloc (.cells #[.int .i64 x] 3)).alloc (.cells #[] 3)).drew (X.heap.size + 1) := by
  have h := own_empty (W := X.alloc (.cells #[.int .i64 x] 3)) (S := X.heap.size) (by simp)
  rw [show (X.alloc (.cells #[.int .i64 x] 3)).heap.size = X.heap.size + 1 by simp] at h
  exact ⟨h, (((Below.refl _ X).alloc (Nat.le_refl _) _).alloc (by simp) _).drew, by simp; omega⟩
theorem IsL.one {W : World} {H : Nat} {x : Int} (hx : fits x) (h : W.heap[H]? = some (Obj.cells #[.int .i64 x] 3)) : IsL W (H + 1) (.slice (some ⟨H, 0, none⟩) 1 1) [x] := by
  refine ⟨⟨_, 1, rfl, by simp, fun _ => ⟨H, 0, rfl, by omega, fun i hi => ?_⟩⟩, fun y hy => by simp at hy; rw [hy]; exact hx, by simp⟩
  have : i = 0 := by simpa using hi
  subst this
  rw [cell_of_row _ H _ _ _ (0, 0) h]
  rfl
theorem one_A {W2 : World} {x : Int} : (W2.alloc (.cells #[.int .i64 x] 3)).heap[W2.heap.size]? = some (Obj.cells #[.int .i64 x] 3) := heap_alloc_new W2 _
theorem one_B {X W2 : World} {x : Int} (hg : ((X.alloc (.cells #[] 3)).alloc (.cells #[.int .i64 x] 3)).drew.grownBy W2 (some X.heap.size)) : W2.heap[X.heap.size + 1]? = some (Obj.cells #[.int .i64 x] 3) := by
  rw [hg.block (X.heap.size + 1) (by simp) (by simp)]
  have h := heap_alloc_new (X.alloc (.cells #[] 3)) (.cells #[.int .i64 x] 3)
  rw [show (X.alloc (.cells #[] 3)).heap.size = X.heap.size + 1 by simp] at h
  exact h
theorem one_C {X W2 : World} {x : Int} (hg : ((X.alloc (.cells #[.int .i64 x] 3)).alloc (.cells #[] 3)).drew.grownBy W2 (some (X.heap.size + 1))) : W2.heap[X.heap.size]? = some (Obj.cells #[.int .i64 x] 3) := by
  rw [hg.block X.heap.size (by simp; omega) (by simp)]
  show ((X.alloc (.cells #[.int .i64 x] 3)).alloc (.cells #[] 3)).heap[X.heap.size]? = _
  rw [Below.heap_alloc _ _ _ (by simp)]
  exact heap_alloc_new X _
theorem Own.grow' {S : Nat} {X W W' : World} {v : Value} {xs : List Int} (h : Own W S v xs) (hb : Below S X W) (hs : S ≤ W.heap.size) (hg : W.grownBy W' v.ownBlock) : Below S X W' := hb.grown hg hs fun k hk => (h.lt k hk).1

set_option maxRecDepth 100000 in
set_option maxHeartbeats 4000000 in
theorem put_full (b off cap : Nat) (s : List Int) (n : Int) (hn : fits n) (w : World) (h0 : 0 < s.length) (hl : s.length ≤ 1000) (hcap : s.length ≤ cap) (hb : b < w.heap.size) (hf : ∀ x ∈ s, fits x)
    (hc : ∀ i, i < s.length → w.cell? ⟨b, off + i, none⟩ = some (.int .i64 (s.getD i 0))) :
    Calls Try.prog 59 #[.slice (some ⟨b, off, none⟩) s.length cap, .int .i64 n] w fun e w' => ∃ v, e = .returned v ∧ IsL w' w'.heap.size v (put s n) ∧ Below w.heap.size w w' := by
  have HN := Lib.hid hn
  have HF := Lib.hid hf
  have HC := Lib.hid hc
  have HB := Lib.hid hb
  clear hn hf hc hb
  go_enter Try.func59, Try.ntmps59
  go_wp2
  go_loop [5] (fun i => ∃ k : Nat, k ≤ s.length ∧ (∀ j, j < k → s.getD j 0 < n) ∧ i = .int .i64 (k : Int)) (fun i => s.length - (intOf i).toNat)
  case atStart => exact ⟨0, Nat.zero_le _, fun j hj => absurd hj (by omega), rfl⟩
  case round =>
    obtain ⟨k, hk, hlow, rfl⟩ := hrel
    have HL := Lib.hid hlow
    have i1 : (0 : Int) ≤ (k : Int) := by omega
    have i2 : (k : Int) ≤ (s.length : Int) := by omega
    have i3 : (k : Int) ≤ (cap : Int) := by omega
    have HT := Lib.hid (IsL.takeLit (cap := cap) HB.out HC.out HF.out k hk (by omega) (by omega))
    have HD := Lib.hid (IsL.dropIf (cap := cap) HB.out HC.out HF.out k hk hcap (by omega))
    have hlens : (s.take k).length = k ∧ (s.drop k).length = s.length - k := ⟨by rw [List.length_take]; omega, List.length_drop⟩
    have HLN := Lib.hid hlens
    clear hlow hlens
    by_cases hlt : k < s.length
    · have hx := HC.out k hlt
      have hpt := put_there s n k hlt HL.out
      have hpa := fun (h : n < s.getD k 0) => put_at s n k hk HL.out (fun _ => h)
      have hlow2 : s.getD k 0 < n → ∀ j, j < k + 1 → s.getD j 0 < n := fun h j hj => by
        rcases Nat.lt_or_ge j k with h2 | h2
        · exact HL.out j h2
        · obtain rfl : j = k := by omega
          exact h
      have HPT := Lib.hid hpt
      have HPA := Lib.hid hpa
      have HLW := Lib.hid hlow2
      clear hpt hpa hlow2
      generalize s.getD k 0 = x at *
      by_cases hx1 : x < n
      · go_wp2
        go_round
        case rel => exact ⟨k + 1, by omega, HLW.out hx1, num_i (by omega)⟩
        case measure => simp [intOf]; omega
      · by_cases hx2 : x = n
        · have hbq : (x == n) = true := by rw [beq_iff_eq]; exact hx2
          have HX2 := Lib.hid hx2
          clear hx2
          go_wp2
          go_ret
          exact ⟨_, rfl, by rw [HPT.out HX2.out]; exact ⟨⟨_, cap, rfl, hcap, fun _ => ⟨b, off, rfl, HB.out, HC.out⟩⟩, HF.out, by omega⟩, Below.refl _ _⟩
        · have hbq : (x == n) = false := by rw [beq_eq_false_iff_ne]; exact hx2
          have HPU := Lib.hid (HPA.out (by omega))
          clear hx2
          go_wp2
          have mA := Lib.hid (made_A w)
          have mB := Lib.hid (made_B w n)
          have mC := Lib.hid (made_C w n)
          go_region_held3 (fun _ => True) (trivial)
            (first
              | (refine step_app (by rfl) (.tmp 33) (.tmp 36) (by rfl) w.heap.size _ _ _ [] (s.take k) (by rfl) (by rfl) mA.out.own (HT.out.below mA.out.below) (by have := HLN.out; simp <;> omega) mA.out.size ?_; intro v1 W2 hown1 hg1; have hb1 := Own.grow' mA.out.own mA.out.below mA.out.size hg1; have hs1 := Nat.le_trans mA.out.size hg1.size)
              | (refine step_app (by rfl) (.tmp 33) (.tmp 36) (by rfl) w.heap.size _ _ _ [] (s.take k) (by rfl) (by rfl) mB.out.own (HT.out.below mB.out.below) (by have := HLN.out; simp <;> omega) mB.out.size ?_; intro v1 W2 hown1 hg1; have hb1 := Own.grow' mB.out.own mB.out.below mB.out.size hg1; have hs1 := Nat.le_trans mB.out.size hg1.size)
              | (refine step_app (by rfl) (.tmp 33) (.tmp 36) (by rfl) w.heap.size _ _ _ [] (s.take k) (by rfl) (by rfl) mC.out.own (HT.out.below mC.out.below) (by have := HLN.out; simp <;> omega) mC.out.size ?_; intro v1 W2 hown1 hg1; have hb1 := Own.grow' mC.out.own mC.out.below mC.out.size hg1; have hs1 := Nat.le_trans mC.out.size hg1.size)
              | (refine step_app (by rfl) (.tmp 37) (.tmp 39) (by rfl) w.heap.size _ v1 _ _ [n] (by rfl) (by rfl) (hown1.alloc (.cells #[.int .i64 n] 3)) (IsL.one HN.out one_A) (by have := HLN.out; simp <;> omega) (show w.heap.size ≤ (W2.alloc (.cells #[.int .i64 n] 3)).heap.size from Nat.le_trans hs1 (by simp)) ?_; intro v2 W4 hown2 hg2; have hb2 := Own.grow' (hown1.alloc (.cells #[.int .i64 n] 3)) (hb1.alloc hs1 (.cells #[.int .i64 n] 3)) (show w.heap.size ≤ (W2.alloc (.cells #[.int .i64 n] 3)).heap.size from Nat.le_trans hs1 (by simp)) hg2; have hs2 := hb2.size)
              | (refine step_app (by rfl) (.tmp 37) (.tmp 39) (by rfl) w.heap.size _ v1 _ _ [n] (by rfl) (by rfl) hown1 (IsL.one HN.out (one_B hg1)) (by have := HLN.out; simp <;> omega) hs1 ?_; intro v2 W4 hown2 hg2; have hb2 := Own.grow' hown1 hb1 hs1 hg2; have hs2 := hb2.size)
              | (refine step_app (by rfl) (.tmp 37) (.tmp 39) (by rfl) w.heap.size _ v1 _ _ [n] (by rfl) (by rfl) hown1 (IsL.one HN.out (one_C hg1)) (by have := HLN.out; simp <;> omega) hs1 ?_; intro v2 W4 hown2 hg2; have hb2 := Own.grow' hown1 hb1 hs1 hg2; have hs2 := hb2.size)
              | (refine step_app (by rfl) (.tmp 40) (.tmp 43) (by rfl) w.heap.size _ v2 _ _ (s.drop k) (by rfl) (by rfl) hown2 (HD.out.below hb2) (by have := HLN.out; simp <;> omega) hs2 ?_; intro v3 W5 hown3 hg3; have hb3 := Own.grow' hown2 hb2 hs2 hg3))
          all_goals
            go_wp2
            all_goals
              go_ret
              refine ⟨_, rfl, ?_, hb3⟩
              have h := hown3.isL (by have := HLN.out; simp <;> omega)
              rw [HPU.out]; simpa using h
    · have hkl : k = s.length := by omega
      have HPU := Lib.hid (put_at s n k hk HL.out (fun h => absurd h (by omega)))
      subst hkl
      go_wp2
      have mA := Lib.hid (made_A w)
      have mB := Lib.hid (made_B w n)
      have mC := Lib.hid (made_C w n)
      go_region_held3 (fun _ => True) (trivial)
        (first
          | (refine step_app (by rfl) (.tmp 33) (.tmp 36) (by rfl) w.heap.size _ _ _ [] (s.take s.length) (by rfl) (by rfl) mA.out.own (HT.out.below mA.out.below) (by have := HLN.out; simp <;> omega) mA.out.size ?_; intro v1 W2 hown1 hg1; have hb1 := Own.grow' mA.out.own mA.out.below mA.out.size hg1; have hs1 := Nat.le_trans mA.out.size hg1.size)
          | (refine step_app (by rfl) (.tmp 33) (.tmp 36) (by rfl) w.heap.size _ _ _ [] (s.take s.length) (by rfl) (by rfl) mB.out.own (HT.out.below mB.out.below) (by have := HLN.out; simp <;> omega) mB.out.size ?_; intro v1 W2 hown1 hg1; have hb1 := Own.grow' mB.out.own mB.out.below mB.out.size hg1; have hs1 := Nat.le_trans mB.out.size hg1.size)
          | (refine step_app (by rfl) (.tmp 33) (.tmp 36) (by rfl) w.heap.size _ _ _ [] (s.take s.length) (by rfl) (by rfl) mC.out.own (HT.out.below mC.out.below) (by have := HLN.out; simp <;> omega) mC.out.size ?_; intro v1 W2 hown1 hg1; have hb1 := Own.grow' mC.out.own mC.out.below mC.out.size hg1; have hs1 := Nat.le_trans mC.out.size hg1.size)
          | (refine step_app (by rfl) (.tmp 37) (.tmp 39) (by rfl) w.heap.size _ v1 _ _ [n] (by rfl) (by rfl) (hown1.alloc (.cells #[.int .i64 n] 3)) (IsL.one HN.out one_A) (by have := HLN.out; simp <;> omega) (show w.heap.size ≤ (W2.alloc (.cells #[.int .i64 n] 3)).heap.size from Nat.le_trans hs1 (by simp)) ?_; intro v2 W4 hown2 hg2; have hb2 := Own.grow' (hown1.alloc (.cells #[.int .i64 n] 3)) (hb1.alloc hs1 (.cells #[.int .i64 n] 3)) (show w.heap.size ≤ (W2.alloc (.cells #[.int .i64 n] 3)).heap.size from Nat.le_trans hs1 (by simp)) hg2; have hs2 := hb2.size)
          | (refine step_app (by rfl) (.tmp 37) (.tmp 39) (by rfl) w.heap.size _ v1 _ _ [n] (by rfl) (by rfl) hown1 (IsL.one HN.out (one_B hg1)) (by have := HLN.out; simp <;> omega) hs1 ?_; intro v2 W4 hown2 hg2; have hb2 := Own.grow' hown1 hb1 hs1 hg2; have hs2 := hb2.size)
          | (refine step_app (by rfl) (.tmp 37) (.tmp 39) (by rfl) w.heap.size _ v1 _ _ [n] (by rfl) (by rfl) hown1 (IsL.one HN.out (one_C hg1)) (by have := HLN.out; simp <;> omega) hs1 ?_; intro v2 W4 hown2 hg2; have hb2 := Own.grow' hown1 hb1 hs1 hg2; have hs2 := hb2.size)
          | (refine step_app (by rfl) (.tmp 40) (.tmp 43) (by rfl) w.heap.size _ v2 _ _ ([] : List Int) (by rfl) (by rfl) hown2 ((IsL.nil w w.heap.size _ _).below hb2) (by have := HLN.out; simp <;> omega) hs2 ?_; intro v3 W5 hown3 hg3; have hb3 := Own.grow' hown2 hb2 hs2 hg3))
      all_goals
        go_wp2
        all_goals
          go_ret
          refine ⟨_, rfl, ?_, hb3⟩
          have h := hown3.isL (by have := HLN.out; simp <;> omega)
          rw [HPU.out]; simpa using h
set_option maxRecDepth 100000 in
set_option maxHeartbeats 4000000 in
theorem put_empty (A : Option Addr) (cap : Nat) (n : Int) (hn : fits n) (w : World) :
    Calls Try.prog 59 #[.slice A 0 cap, .int .i64 n] w fun e w' => ∃ v, e = .returned v ∧ IsL w' w'.heap.size v [n] ∧ Below w.heap.size w w' := by
  have HN := Lib.hid hn
  clear hn
  rcases A with _ | ad
  · go_enter Try.func59, Try.ntmps59
    go_wp2
    go_loop [5] (fun i => i = .int .i64 0) (fun _ => 0)
    case atStart => rfl
    case round =>
      obtain rfl := hrel
      go_wp2
      have HLN := Lib.hid (rfl : ([] : List Int).length = 0)
      have mA := Lib.hid (made_A w)
      have mB := Lib.hid (made_B w n)
      have mC := Lib.hid (made_C w n)
      go_region_held3 (fun _ => True) (trivial)
        (first
          | (refine step_app (by rfl) (.tmp 33) (.tmp 36) (by rfl) w.heap.size _ _ _ [] ([] : List Int) (by rfl) (by rfl) mA.out.own ((IsL.nil w w.heap.size _ _).below mA.out.below) (by have := HLN.out; simp <;> omega) mA.out.size ?_; intro v1 W2 hown1 hg1; have hb1 := Own.grow' mA.out.own mA.out.below mA.out.size hg1; have hs1 := Nat.le_trans mA.out.size hg1.size)
          | (refine step_app (by rfl) (.tmp 33) (.tmp 36) (by rfl) w.heap.size _ _ _ [] ([] : List Int) (by rfl) (by rfl) mB.out.own ((IsL.nil w w.heap.size _ _).below mB.out.below) (by have := HLN.out; simp <;> omega) mB.out.size ?_; intro v1 W2 hown1 hg1; have hb1 := Own.grow' mB.out.own mB.out.below mB.out.size hg1; have hs1 := Nat.le_trans mB.out.size hg1.size)
          | (refine step_app (by rfl) (.tmp 33) (.tmp 36) (by rfl) w.heap.size _ _ _ [] ([] : List Int) (by rfl) (by rfl) mC.out.own ((IsL.nil w w.heap.size _ _).below mC.out.below) (by have := HLN.out; simp <;> omega) mC.out.size ?_; intro v1 W2 hown1 hg1; have hb1 := Own.grow' mC.out.own mC.out.below mC.out.size hg1; have hs1 := Nat.le_trans mC.out.size hg1.size)
          | (refine step_app (by rfl) (.tmp 37) (.tmp 39) (by rfl) w.heap.size _ v1 _ _ [n] (by rfl) (by rfl) (hown1.alloc (.cells #[.int .i64 n] 3)) (IsL.one HN.out one_A) (by have := HLN.out; simp <;> omega) (show w.heap.size ≤ (W2.alloc (.cells #[.int .i64 n] 3)).heap.size from Nat.le_trans hs1 (by simp)) ?_; intro v2 W4 hown2 hg2; have hb2 := Own.grow' (hown1.alloc (.cells #[.int .i64 n] 3)) (hb1.alloc hs1 (.cells #[.int .i64 n] 3)) (show w.heap.size ≤ (W2.alloc (.cells #[.int .i64 n] 3)).heap.size from Nat.le_trans hs1 (by simp)) hg2; have hs2 := hb2.size)
          | (refine step_app (by rfl) (.tmp 37) (.tmp 39) (by rfl) w.heap.size _ v1 _ _ [n] (by rfl) (by rfl) hown1 (IsL.one HN.out (one_B hg1)) (by have := HLN.out; simp <;> omega) hs1 ?_; intro v2 W4 hown2 hg2; have hb2 := Own.grow' hown1 hb1 hs1 hg2; have hs2 := hb2.size)
          | (refine step_app (by rfl) (.tmp 37) (.tmp 39) (by rfl) w.heap.size _ v1 _ _ [n] (by rfl) (by rfl) hown1 (IsL.one HN.out (one_C hg1)) (by have := HLN.out; simp <;> omega) hs1 ?_; intro v2 W4 hown2 hg2; have hb2 := Own.grow' hown1 hb1 hs1 hg2; have hs2 := hb2.size)
          | (refine step_app (by rfl) (.tmp 40) (.tmp 43) (by rfl) w.heap.size _ v2 _ _ ([] : List Int) (by rfl) (by rfl) hown2 ((IsL.nil w w.heap.size _ _).below hb2) (by have := HLN.out; simp <;> omega) hs2 ?_; intro v3 W5 hown3 hg3; have hb3 := Own.grow' hown2 hb2 hs2 hg3))
      all_goals
        go_wp2
        all_goals
          go_ret
          refine ⟨_, rfl, ?_, hb3⟩
          have h := hown3.isL (by have := HLN.out; simp <;> omega)
          simpa using h
  · by_cases hc : cap = 0
    · subst hc
      go_enter Try.func59, Try.ntmps59
      go_wp2
      go_loop [5] (fun i => i = .int .i64 0) (fun _ => 0)
      case atStart => rfl
      case round =>
        obtain rfl := hrel
        go_wp2
        have HLN := Lib.hid (rfl : ([] : List Int).length = 0)
        have mA := Lib.hid (made_A w)
        have mB := Lib.hid (made_B w n)
        have mC := Lib.hid (made_C w n)
        go_region_held3 (fun _ => True) (trivial)
          (first
            | (refine step_app (by rfl) (.tmp 33) (.tmp 36) (by rfl) w.heap.size _ _ _ [] ([] : List Int) (by rfl) (by rfl) mA.out.own ((IsL.nil w w.heap.size _ _).below mA.out.below) (by have := HLN.out; simp <;> omega) mA.out.size ?_; intro v1 W2 hown1 hg1; have hb1 := Own.grow' mA.out.own mA.out.below mA.out.size hg1; have hs1 := Nat.le_trans mA.out.size hg1.size)
            | (refine step_app (by rfl) (.tmp 33) (.tmp 36) (by rfl) w.heap.size _ _ _ [] ([] : List Int) (by rfl) (by rfl) mB.out.own ((IsL.nil w w.heap.size _ _).below mB.out.below) (by have := HLN.out; simp <;> omega) mB.out.size ?_; intro v1 W2 hown1 hg1; have hb1 := Own.grow' mB.out.own mB.out.below mB.out.size hg1; have hs1 := Nat.le_trans mB.out.size hg1.size)
            | (refine step_app (by rfl) (.tmp 33) (.tmp 36) (by rfl) w.heap.size _ _ _ [] ([] : List Int) (by rfl) (by rfl) mC.out.own ((IsL.nil w w.heap.size _ _).below mC.out.below) (by have := HLN.out; simp <;> omega) mC.out.size ?_; intro v1 W2 hown1 hg1; have hb1 := Own.grow' mC.out.own mC.out.below mC.out.size hg1; have hs1 := Nat.le_trans mC.out.size hg1.size)
            | (refine step_app (by rfl) (.tmp 37) (.tmp 39) (by rfl) w.heap.size _ v1 _ _ [n] (by rfl) (by rfl) (hown1.alloc (.cells #[.int .i64 n] 3)) (IsL.one HN.out one_A) (by have := HLN.out; simp <;> omega) (show w.heap.size ≤ (W2.alloc (.cells #[.int .i64 n] 3)).heap.size from Nat.le_trans hs1 (by simp)) ?_; intro v2 W4 hown2 hg2; have hb2 := Own.grow' (hown1.alloc (.cells #[.int .i64 n] 3)) (hb1.alloc hs1 (.cells #[.int .i64 n] 3)) (show w.heap.size ≤ (W2.alloc (.cells #[.int .i64 n] 3)).heap.size from Nat.le_trans hs1 (by simp)) hg2; have hs2 := hb2.size)
            | (refine step_app (by rfl) (.tmp 37) (.tmp 39) (by rfl) w.heap.size _ v1 _ _ [n] (by rfl) (by rfl) hown1 (IsL.one HN.out (one_B hg1)) (by have := HLN.out; simp <;> omega) hs1 ?_; intro v2 W4 hown2 hg2; have hb2 := Own.grow' hown1 hb1 hs1 hg2; have hs2 := hb2.size)
            | (refine step_app (by rfl) (.tmp 37) (.tmp 39) (by rfl) w.heap.size _ v1 _ _ [n] (by rfl) (by rfl) hown1 (IsL.one HN.out (one_C hg1)) (by have := HLN.out; simp <;> omega) hs1 ?_; intro v2 W4 hown2 hg2; have hb2 := Own.grow' hown1 hb1 hs1 hg2; have hs2 := hb2.size)
            | (refine step_app (by rfl) (.tmp 40) (.tmp 43) (by rfl) w.heap.size _ v2 _ _ ([] : List Int) (by rfl) (by rfl) hown2 ((IsL.nil w w.heap.size _ _).below hb2) (by have := HLN.out; simp <;> omega) hs2 ?_; intro v3 W5 hown3 hg3; have hb3 := Own.grow' hown2 hb2 hs2 hg3))
        all_goals
          go_wp2
          all_goals
            go_ret
            refine ⟨_, rfl, ?_, hb3⟩
            have h := hown3.isL (by have := HLN.out; simp <;> omega)
            simpa using h
    · go_enter Try.func59, Try.ntmps59
      go_wp2
      go_loop [5] (fun i => i = .int .i64 0) (fun _ => 0)
      case atStart => rfl
      case round =>
        obtain rfl := hrel
        go_wp2
        have HLN := Lib.hid (rfl : ([] : List Int).length = 0)
        have mA := Lib.hid (made_A w)
        have mB := Lib.hid (made_B w n)
        have mC := Lib.hid (made_C w n)
        go_region_held3 (fun _ => True) (trivial)
          (first
            | (refine step_app (by rfl) (.tmp 33) (.tmp 36) (by rfl) w.heap.size _ _ _ [] ([] : List Int) (by rfl) (by rfl) mA.out.own ((IsL.nil w w.heap.size _ _).below mA.out.below) (by have := HLN.out; simp <;> omega) mA.out.size ?_; intro v1 W2 hown1 hg1; have hb1 := Own.grow' mA.out.own mA.out.below mA.out.size hg1; have hs1 := Nat.le_trans mA.out.size hg1.size)
            | (refine step_app (by rfl) (.tmp 33) (.tmp 36) (by rfl) w.heap.size _ _ _ [] ([] : List Int) (by rfl) (by rfl) mB.out.own ((IsL.nil w w.heap.size _ _).below mB.out.below) (by have := HLN.out; simp <;> omega) mB.out.size ?_; intro v1 W2 hown1 hg1; have hb1 := Own.grow' mB.out.own mB.out.below mB.out.size hg1; have hs1 := Nat.le_trans mB.out.size hg1.size)
            | (refine step_app (by rfl) (.tmp 33) (.tmp 36) (by rfl) w.heap.size _ _ _ [] ([] : List Int) (by rfl) (by rfl) mC.out.own ((IsL.nil w w.heap.size _ _).below mC.out.below) (by have := HLN.out; simp <;> omega) mC.out.size ?_; intro v1 W2 hown1 hg1; have hb1 := Own.grow' mC.out.own mC.out.below mC.out.size hg1; have hs1 := Nat.le_trans mC.out.size hg1.size)
            | (refine step_app (by rfl) (.tmp 37) (.tmp 39) (by rfl) w.heap.size _ v1 _ _ [n] (by rfl) (by rfl) (hown1.alloc (.cells #[.int .i64 n] 3)) (IsL.one HN.out one_A) (by have := HLN.out; simp <;> omega) (show w.heap.size ≤ (W2.alloc (.cells #[.int .i64 n] 3)).heap.size from Nat.le_trans hs1 (by simp)) ?_; intro v2 W4 hown2 hg2; have hb2 := Own.grow' (hown1.alloc (.cells #[.int .i64 n] 3)) (hb1.alloc hs1 (.cells #[.int .i64 n] 3)) (show w.heap.size ≤ (W2.alloc (.cells #[.int .i64 n] 3)).heap.size from Nat.le_trans hs1 (by simp)) hg2; have hs2 := hb2.size)
            | (refine step_app (by rfl) (.tmp 37) (.tmp 39) (by rfl) w.heap.size _ v1 _ _ [n] (by rfl) (by rfl) hown1 (IsL.one HN.out (one_B hg1)) (by have := HLN.out; simp <;> omega) hs1 ?_; intro v2 W4 hown2 hg2; have hb2 := Own.grow' hown1 hb1 hs1 hg2; have hs2 := hb2.size)
            | (refine step_app (by rfl) (.tmp 37) (.tmp 39) (by rfl) w.heap.size _ v1 _ _ [n] (by rfl) (by rfl) hown1 (IsL.one HN.out (one_C hg1)) (by have := HLN.out; simp <;> omega) hs1 ?_; intro v2 W4 hown2 hg2; have hb2 := Own.grow' hown1 hb1 hs1 hg2; have hs2 := hb2.size)
            | (refine step_app (by rfl) (.tmp 40) (.tmp 43) (by rfl) w.heap.size _ v2 _ _ ([] : List Int) (by rfl) (by rfl) hown2 ((IsL.nil w w.heap.size _ _).below hb2) (by have := HLN.out; simp <;> omega) hs2 ?_; intro v3 W5 hown3 hg3; have hb3 := Own.grow' hown2 hb2 hs2 hg3))
        all_goals
          go_wp2
          all_goals
            go_ret
            refine ⟨_, rfl, ?_, hb3⟩
            have h := hown3.isL (by have := HLN.out; simp <;> omega)
            simpa using h
theorem put_any (v : Value) (s : List Int) (n : Int) (hn : fits n) (w : World) (h : IsL w w.heap.size v s) (hl : s.length ≤ 1000) :
    Calls Try.prog 59 #[v, .int .i64 n] w fun e w' => ∃ v, e = .returned v ∧ IsL w' w'.heap.size v (put s n) ∧ Below w.heap.size w w' := by
  obtain ⟨⟨A, cap, rfl, hcap, hA⟩, hf, _⟩ := h
  by_cases h0 : 0 < s.length
  · obtain ⟨b, off, rfl, hb, hc⟩ := hA h0
    exact put_full b off cap s n hn w h0 hl hcap hb hf hc
  · obtain rfl : s = [] := List.eq_nil_of_length_eq_zero (by omega)
    exact put_empty A cap n hn w
end Go.Proofs.Ytbflkdkbfidleaa.Two
