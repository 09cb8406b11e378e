/- Texts read: what the program and the reference answer. -/
import Derived.Test.YtegghoniboebkaaNC
import Derived.Test.YtegghoniboebkaaMC
namespace Go.Proofs.Ytegghoniboebkaa
open Go.RowKit

/-- A text as the list of its signs: its length, and what stands at a place. -/
structure IsT (s : ByteArray) (l : List UInt8) : Prop where
  eq : s = ⟨l.toArray⟩
theorem IsT.size {s : ByteArray} {l : List UInt8} (h : IsT s l) : s.size = l.length := by rw [h.eq]; rfl
theorem IsT.idx {s : ByteArray} {l : List UInt8} (h : IsT s l) (k : Nat) (hk : k < l.length) (w : World) : (Instr.index 9 (.string s) (.int .i64 (k : Int))).run Try.prog w = .ok (.int .u8 ((l.getD k 0).toNat : Int)) w := by
  have hs := h.size
  rw [run_index_string w 9 s .i64 k Try.underlying9, dif_pos (by omega)]
  have e := h.eq
  subst e
  congr 4
  simp only [Int.toNat_natCast]
  rw [List.getD_eq_getElem?_getD, List.getElem?_eq_getElem hk]
  rfl
theorem val_take (l : List UInt8) (k : Nat) (h : k < l.length) : val (l.take (k + 1)) = 10 * val (l.take k) + ((l.getD k 0).toNat - 48) := by
  rw [List.take_succ_eq_append_getElem h, val_snoc, List.getD_eq_getElem?_getD, List.getElem?_eq_getElem h]
  rfl
theorem all_take (l : List UInt8) (k : Nat) (h : k < l.length) : (l.take (k + 1)).all isd = ((l.take k).all isd && isd (l.getD k 0)) := by
  rw [List.take_succ_eq_append_getElem h, List.all_append, List.getD_eq_getElem?_getD, List.getElem?_eq_getElem h]
  simp
theorem not_all (l : List UInt8) (k : Nat) (h : k < l.length) (hd : isd (l.getD k 0) = false) : l.all isd = false := by
  rw [List.getD_eq_getElem?_getD, List.getElem?_eq_getElem h] at hd
  rw [List.all_eq_false]
  exact ⟨_, List.getElem_mem h, by simpa using hd⟩
theorem ret_ub {a b : Int} {x y : Bool} (h : a = b) (k : x = y) : Ending.returned (.tuple #[.int .u64 a, .bool x]) = .returned (.tuple #[.int .u64 b, .bool y]) := by rw [h, k]

set_option maxHeartbeats 1000000 in
theorem digitsSize_any (s : ByteArray) (l : List UInt8) (hs : IsT s l) (w : World) :
    Calls Try.prog 74 #[.string s] w fun e w' => e = .returned (.tuple #[.int .u64 (((rd l).getD 0 : Nat) : Int), .bool (rd l).isSome]) ∧ w = w' := by
  have hsz := hs.size
  have HI := Lib.hid hs
  clear hs
  by_cases hlen : 1 ≤ l.length ∧ l.length ≤ 19
  · obtain ⟨h1, h19⟩ := hlen
    go_enter Try.func74, Try.ntmps74
    go_wp2
    go_loop [4, 17] (fun z i => ∃ k : Nat, k ≤ l.length ∧ (l.take k).all isd = true ∧ z = .int .u64 (val (l.take k) : Int) ∧ i = .int .i64 (k : Int)) (fun _ i => l.length - (intOf i).toNat)
    case atStart => exact ⟨0, Nat.zero_le _, by simp, by simp [val], rfl⟩
    case round =>
      obtain ⟨k, hk, hall, rfl, rfl⟩ := hrel
      have hv := val_lt _ hall
      have HA := Lib.hid hall
      clear hall
      have hp : 10 ^ (l.take k).length ≤ 10 ^ 19 := Nat.pow_le_pow_right (by decide) (by rw [List.length_take]; omega)
      by_cases hlt : k < l.length
      · have hix := HI.out.idx k hlt
        have HVT := Lib.hid (val_take l k hlt)
        have HAT := Lib.hid (all_take l k hlt)
        have hp1 : 10 ^ (l.take k).length ≤ 10 ^ 18 := Nat.pow_le_pow_right (by decide) (by rw [List.length_take]; omega)
        have hv1 : val (l.take k) < 10 ^ 18 := by omega
        have HNA := Lib.hid (not_all l k hlt)
        generalize l.getD k 0 = c at *
        generalize val (l.take k) = v at *
        clear hp hp1 hv
        have hc := c.toNat_lt
        go_wp2
        all_goals try
          go_ret2
          have hd : isd c = false := by
            unfold isd
            rw [Bool.and_eq_false_iff, decide_eq_false_iff_not, decide_eq_false_iff_not]
            omega
          have hr : rd l = none := by rw [rd, if_neg]; intro hh; rw [HNA.out hd] at hh; exact absurd hh.2.2 (by simp)
          exact ⟨by rw [hr]; rfl, rfl⟩
        · go_round
          case rel =>
            have hd : isd c = true := by rw [isd_iff]; omega
            refine ⟨k + 1, by omega, by rw [HAT.out, HA.out, hd]; rfl, num_u ?_, num_i (by omega)⟩
            rw [HVT.out]
            (try rw [IntKind.wrap_u64])
            omega
          case measure => simp [intOf]; omega
      · obtain rfl : k = l.length := by omega
        go_wp2
        go_ret2
        have ha := HA.out
        rw [List.take_length] at *
        have hr : rd l = some (val l) := by rw [rd, if_pos ⟨h1, h19, ha⟩]
        exact ⟨by rw [hr]; rfl, rfl⟩
  · have HL := Lib.hid hlen
    clear hlen
    go_enter Try.func74, Try.ntmps74
    go_wp2
    all_goals first
      | (exfalso; have := HL.out; omega)
      | (go_ret2
         have hr : rd l = none := by rw [rd, if_neg]; intro hh; exact HL.out ⟨hh.1, hh.2.1⟩
         exact ⟨by rw [hr]; rfl, rfl⟩)
end Go.Proofs.Ytegghoniboebkaa
