/- Volumes together: what the program's Sum and the reference's answer. -/
import Derived.Test.YtdnifilmckialaaDoorWI
import Derived.Test.YtdnifilmckialaaDoorWF
import Derived.Test.YtdnifilmckialaaDoorMathH
namespace Go.Proofs.YtdnifilmckialaaDoor
open Go.RowKit

theorem Cells.drewN {w : World} {b off : Nat} {xs : List Nat} (h : Cells w b off xs) (d : Nat) : Cells (w.drewN d) b off xs := h

set_option maxHeartbeats 2000000 in
theorem sum_any (b off len cap : Nat) (xs : List Nat) (hx : xs.length = len) (hm : len ≤ 9223372036854775807) (hlt : ∀ x ∈ xs, x < 18446744073709551616) (w : World) (hT : Tab w) (hc : Cells w b off xs) :
    Calls Tryd.prog 35 #[.slice (some ⟨b, off, none⟩) len cap] w fun e w' => e = .returned (.tuple #[.int .i64 (sumGo xs 0).1, .int .i64 (sumGo xs 0).2]) ∧ ∃ d, w' = w.drewN d := by
  have HX := Lib.hid hx
  have HLT := Lib.hid hlt
  clear hx hlt
  go_enter Tryd.func35, Tryd.ntmps35
  go_wp2
  go_step3
  go_wp2
  go_step3
  go_wp2
  go_loopw [4, 5, 12] (fun s e i wr => ∃ k n d : Nat, k ≤ len ∧ sumGo (xs.drop k) n = sumGo xs 0 ∧ n ≤ 1099511627776 ∧ s = .int .i64 n ∧ e = .int .i64 0 ∧ i = .int .i64 k ∧ wr = w.drewN d) (fun _ _ i _ => len - (intOf i).toNat)
  case atStart => exact ⟨0, 0, 0, by omega, by simp, by omega, rfl, rfl, rfl, rfl⟩
  case round =>
    obtain ⟨k, n, d, hk, hsum, hn, rfl, rfl, rfl, rfl⟩ := hrel
    have HS := Lib.hid hsum
    clear hsum
    by_cases hlt : k < len
    · have hcell := hc k (by rw [HX.out]; exact hlt)
      have hf : xs.getD k 0 < 18446744073709551616 := HLT.out _ (by have := HX.out; rw [List.getD_eq_getElem?_getD, List.getElem?_eq_getElem (by omega)]; exact List.getElem_mem _)
      have hst := sumGo_drop xs k n (by rw [HX.out]; exact hlt)
      rw [HS.out] at hst
      have HT := Lib.hid hst
      clear hst
      have hV := ofV_le (xs.getD k 0)
      generalize xs.getD k 0 = f at *
      by_cases he : ofE f = 0
      · have HE := Lib.hid he
        have hof : ∀ w : World, Tab w → Calls Tryd.prog 30 #[.float .f64 f] w fun e w' => e = .returned (.tuple #[.int .i64 (ofV f), .int .i64 0]) ∧ ∃ d, w' = w.drewN d := fun w hT => by
          have := of_any f hf w hT
          rw [he] at this
          exact this
        have HO := Lib.hid hof
        clear hof he
        by_cases hov : 1099511627776 < n + ofV f
        · go_wp2_with (go_at_call 30; refine (HO.out _ (hT.drewN _)).mono ?_; rintro e w' ⟨rfl, d1, rfl⟩)
          rw [Exit.noGoto_ret]
          go_ret2
          have e := HT.out
          rw [if_pos HE.out, if_pos hov] at e
          exact ⟨ret_ii (by rw [e]; rfl) (by rw [e]), _, rfl⟩
        · go_wp2_with (go_at_call 30; refine (HO.out _ (hT.drewN _)).mono ?_; rintro e w' ⟨rfl, d1, rfl⟩)
          go_roundw
          case rel => exact ⟨k + 1, n + ofV f, _, by omega, by rw [HT.out, if_pos HE.out, if_neg hov], by omega, num_i (by omega), rfl, num_i (by omega), rfl⟩
          case measure => simp [intOf]; omega
      · have hne : (ofE f != 0) = true := by rw [bne_iff_ne]; exact he
        have HE := Lib.hid he
        clear he
        go_wp2_with (go_at_call 30; refine (of_any f hf _ (hT.drewN _)).mono ?_; rintro e w' ⟨rfl, d1, rfl⟩)
        rw [Exit.noGoto_ret]
        go_ret2
        have e := HT.out
        rw [if_neg HE.out] at e
        exact ⟨ret_ii (by rw [e]; rfl) (by rw [e]), _, rfl⟩
    · go_wp2
      rw [Exit.noGoto_ret]
      go_ret2
      have e := HS.out
      rw [sumGo_end xs k n (by rw [HX.out]; omega)] at e
      exact ⟨ret_ii (by rw [← e]) (by rw [← e]), _, rfl⟩
set_option maxHeartbeats 400000 in
theorem sum_nil (a : Option Addr) (cap : Nat) (w : World) : Calls Tryd.prog 35 #[.slice a 0 cap] w fun e w' => e = .returned (.tuple #[.int .i64 0, .int .i64 0]) ∧ ∃ d, w' = w.drewN d := by
  go_enter Tryd.func35, Tryd.ntmps35
  go_wp2
  go_step3
  go_wp2
  go_step3
  go_wp2
  go_loop [4, 5, 12] (fun s e i => s = .int .i64 0 ∧ e = .int .i64 0 ∧ i = .int .i64 0) (fun _ _ _ => 0)
  case atStart => exact ⟨rfl, rfl, rfl⟩
  case round =>
    obtain ⟨rfl, rfl, rfl⟩ := hrel
    go_wp2
    go_ret2
    exact ⟨rfl, 0, by trivial⟩
/-- A list of bits in memory. -/
def CellsU (w : World) (b off : Nat) (xs : List Nat) : Prop := ∀ i, i < xs.length → w.cell? ⟨b, off + i, none⟩ = some (.int .u64 (xs.getD i 0))
set_option maxHeartbeats 2000000 in
theorem rsum_any (b off len cap : Nat) (xs : List Nat) (hx : xs.length = len) (hm : len ≤ 9223372036854775807) (hlt : ∀ x ∈ xs, x < 18446744073709551616) (w : World) (hc : CellsU w b off xs) :
    Calls Tryd.prog 36 #[.slice (some ⟨b, off, none⟩) len cap] w fun e w' => e = .returned (.tuple #[.int .i64 (sumGo xs 0).1, .int .i64 (sumGo xs 0).2]) ∧ ∃ d, w' = w.drewN d := by
  have HX := Lib.hid hx
  have HLT := Lib.hid hlt
  clear hx hlt
  go_enter Tryd.func36, Tryd.ntmps36
  go_wp2
  go_loopw [4, 5] (fun s i wr => ∃ k n d : Nat, k ≤ len ∧ sumGo (xs.drop k) n = sumGo xs 0 ∧ n ≤ 1099511627776 ∧ s = .int .i64 n ∧ i = .int .i64 k ∧ wr = w.drewN d) (fun _ i _ => len - (intOf i).toNat)
  case atStart => exact ⟨0, 0, 0, by omega, by simp, by omega, rfl, rfl, rfl⟩
  case round =>
    obtain ⟨k, n, d, hk, hsum, hn, rfl, rfl, rfl⟩ := hrel
    have HS := Lib.hid hsum
    clear hsum
    by_cases hlt : k < len
    · have hcell := hc k (by rw [HX.out]; exact hlt)
      have hf : xs.getD k 0 < 18446744073709551616 := HLT.out _ (by have := HX.out; rw [List.getD_eq_getElem?_getD, List.getElem?_eq_getElem (by omega)]; exact List.getElem_mem _)
      have hst := sumGo_drop xs k n (by rw [HX.out]; exact hlt)
      rw [HS.out] at hst
      have HT := Lib.hid hst
      clear hst
      have hV := ofV_le (xs.getD k 0)
      generalize xs.getD k 0 = f at *
      by_cases he : ofE f = 0
      · have HE := Lib.hid he
        have hof : ∀ w : World, Calls Tryd.prog 31 #[.int .u64 f] w fun e w' => e = .returned (.tuple #[.int .i64 (ofV f), .int .i64 0]) ∧ ∃ d, w' = w.drewN d := fun w => by
          have := rof_any f hf w
          rw [he] at this
          exact this
        have HO := Lib.hid hof
        clear hof he
        by_cases hov : 1099511627776 < n + ofV f
        · go_wp2_with (go_at_call 31; refine (HO.out _).mono ?_; rintro e w' ⟨rfl, d1, rfl⟩)
          go_ret2
          have e := HT.out
          rw [if_pos HE.out, if_pos hov] at e
          exact ⟨ret_ii (by rw [e]; rfl) (by rw [e]), _, rfl⟩
        · go_wp2_with (go_at_call 31; refine (HO.out _).mono ?_; rintro e w' ⟨rfl, d1, rfl⟩)
          go_roundw
          case rel => exact ⟨k + 1, n + ofV f, _, by omega, by rw [HT.out, if_pos HE.out, if_neg hov], by omega, num_i (by omega), num_i (by omega), rfl⟩
          case measure => simp [intOf]; omega
      · have hne : (ofE f != 0) = true := by rw [bne_iff_ne]; exact he
        have HE := Lib.hid he
        clear he
        go_wp2_with (go_at_call 31; refine (rof_any f hf _).mono ?_; rintro e w' ⟨rfl, d1, rfl⟩)
        go_ret2
        have e := HT.out
        rw [if_neg HE.out] at e
        exact ⟨ret_ii (by rw [e]; rfl) (by rw [e]), _, rfl⟩
    · go_wp2
      go_ret2
      have e := HS.out
      rw [sumGo_end xs k n (by rw [HX.out]; omega)] at e
      exact ⟨ret_ii (by rw [← e]) (by rw [← e]), _, rfl⟩
set_option maxHeartbeats 400000 in
theorem rsum_nil (a : Option Addr) (cap : Nat) (w : World) : Calls Tryd.prog 36 #[.slice a 0 cap] w fun e w' => e = .returned (.tuple #[.int .i64 0, .int .i64 0]) ∧ ∃ d, w' = w.drewN d := by
  go_enter Tryd.func36, Tryd.ntmps36
  go_wp2
  go_loop [4, 5] (fun s i => s = .int .i64 0 ∧ i = .int .i64 0) (fun _ _ => 0)
  case atStart => exact ⟨rfl, rfl⟩
  case round =>
    obtain ⟨rfl, rfl⟩ := hrel
    go_wp2
    go_ret2
    exact ⟨rfl, 0, by trivial⟩

/-- A number of 64 bits, as a value. -/
def bitsV (x : Nat) : Value := .int .u64 x
/-- The element type's row of the table. -/
theorem info23 : (Tryd.prog.info? 23).map (fun i => (i.zero, i.size, i.bytes)) = some (some (.int .u64 0), 1, 8) := by kernel_rfl
set_option maxHeartbeats 2000000 in
theorem list_any (b off len cap : Nat) (xs : List Nat) (hx : xs.length = len) (hm : len * 8 ≤ 140737488351232) (w : World) (hc : Cells w b off xs) (hbB : 0 < len → b < w.heap.size) :
    Calls Tryd.prog 27 #[.slice (some ⟨b, off, none⟩) len cap] w fun e w' => ∃ v, e = .returned v ∧ w'.ownsRow w.heap.size 23 1 v len (xs.map bitsV) ∧ Below w.heap.size w w' := by
  have HX := Lib.hid hx
  clear hx
  obtain ⟨i0, hi, hz0, hz1, hz2⟩ := info_parts info23
  obtain ⟨B, hB⟩ : ∃ B, B = w.heap.size := ⟨_, rfl⟩
  have HB := Lib.hid hB
  rw [← hB] at hbB ⊢
  have HBB := Lib.hid hbB
  clear hB hbB
  go_enter Tryd.func27, Tryd.ntmps27
  go_wp2
  go_loopw [3, 4] (fun v i wr => ∃ k : Nat, k ≤ len ∧ i = .int .i64 k ∧ wr.ownsRow B 23 1 v k ((xs.take k).map bitsV) ∧ Below B w wr) (fun _ i _ => len - (intOf i).toNat)
  case atStart => exact ⟨0, Nat.zero_le _, rfl, World.ownsRow_nil _ _ _ _, Below.refl _ _⟩
  case round =>
    obtain ⟨k, hk, rfl, hown, hnx⟩ := hrel
    have hcx : k < len → wr.cell? ⟨b, off + k, none⟩ = some (.float .f64 (xs.getD k 0)) := fun hh => (hnx.cell (by exact HBB.out (by omega))).trans (hc k (by rw [HX.out]; exact hh))
    by_cases hlt : k < len
    · have hcell := hcx hlt
      clear hcx
      have htk := take_snoc_getD xs k (by rw [HX.out]; exact hlt)
      have HTK := Lib.hid htk
      clear htk
      generalize xs.getD k 0 = f at *
      go_wp2_with (first
        | (at_builtin; refine wpList_append_own _ rfl _ _ 41 rfl B 23 i0 (.int .u64 0) 1 8 Tryd.underlying41 hi hz0 hz1 hz2 rfl (by decide) _ _ _ rfl (hown.alloc _) ⟨wr.heap.size, 0, none⟩ 1 1 [.int .u64 f] rfl rfl ?c1 ?c2 ?c3 ?c4 ?c5 ?_)
        | (go_at_call 11; refine (bits_any _ _).mono ?_; rintro e w' ⟨rfl, rfl⟩))
      case c1 =>
        intro j u hj
        match j, hj with
        | 0, hj => simp at hj; subst hj; simp [Addr.add]
      case c2 => intro u hu; simp at hu; subst hu; rfl
      case c3 => unfold maxLen; omega
      case c4 => omega
      case c5 => have := hnx.size; have := HB.out; simp; omega
      · intro v' w1 hown' hgrow _
        have hs1 := hnx.size
        have hs2 := HB.out
        have hn1 : Below B w w1 := (hnx.alloc (by omega) _).grown hgrow (by simp; omega) (fun j hj => by have := (hown.lt j hj).1; omega)
        have hown1 : w1.ownsRow B 23 1 v' (k + 1) ((xs.take (k + 1)).map bitsV) := by
          rw [HTK.out, List.map_append, List.map_take]
          exact hown'
        clear hown' hgrow hown
        go_wp2
        go_roundw
        case rel => exact ⟨k + 1, by omega, num_i (by omega), hown1, hn1⟩
        case measure => simp [intOf]; omega
    · obtain rfl : k = len := by omega
      clear hcx
      go_wp2
      go_ret
      rw [List.take_of_length_le (by rw [HX.out]; omega)] at hown
      exact ⟨_, rfl, hown, hnx⟩
set_option maxHeartbeats 400000 in
theorem list_nil (a : Option Addr) (cap : Nat) (w : World) : Calls Tryd.prog 27 #[.slice a 0 cap] w fun e w' => e = .returned (.slice none 0 0) ∧ w = w' := by
  go_enter Tryd.func27, Tryd.ntmps27
  go_wp2
  go_loop [3, 4] (fun s i => s = .slice none 0 0 ∧ i = .int .i64 0) (fun _ _ => 0)
  case atStart => exact ⟨rfl, rfl⟩
  case round =>
    obtain ⟨rfl, rfl⟩ := hrel
    go_wp2
    go_ret
    exact ⟨rfl, by trivial⟩
end Go.Proofs.YtdnifilmckialaaDoor
