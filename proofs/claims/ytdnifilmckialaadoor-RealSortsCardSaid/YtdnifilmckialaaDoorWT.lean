/- The reference's list of a float's bits, and its order. -/
import Derived.Test.YtdnifilmckialaaDoorWF
import Derived.Test.YtdnifilmckialaaDoorMathV
import Derived.Deep.RegionHeld3
import Derived.Deep.AppendLies
import Derived.Laws.AppendOwnNone
import Derived.Deep.OwnRows
namespace Go.Proofs.YtdnifilmckialaaDoor
open Go.RowKit

/-- A number of 64 bits, as a value. -/
def bitsR (x : Nat) : Value := .int .u64 x
/-- The element type's row of the table. -/
theorem infoR23 : (Tryd.prog.info? 23).map (fun i => (i.zero, i.size, i.bytes)) = some (some (.int .u64 0), 1, 8) := by kernel_rfl
set_option maxHeartbeats 2000000 in
theorem listR_any (b off len cap : Nat) (xs : List Nat) (hx : xs.length = len) (hm : len * 8 ≤ 140737488351232) (w : World) (hc : Cells w b off xs) (hbB : 0 < len → b < w.heap.size) :
    Calls Tryd.prog 27 #[.slice (some ⟨b, off, none⟩) len cap] w fun e w' => ∃ v, e = .returned v ∧ w'.ownsRow w.heap.size 23 1 v len (xs.map bitsR) ∧ Below w.heap.size w w' := by
  have HX := Lib.hid hx
  clear hx
  obtain ⟨i0, hi, hz0, hz1, hz2⟩ := info_parts infoR23
  obtain ⟨B, hB⟩ : ∃ B, B = w.heap.size := ⟨_, rfl⟩
  have HB := Lib.hid hB
  rw [← hB] at hbB ⊢
  have HBB := Lib.hid hbB
  clear hB hbB
  go_enter Tryd.func27, Tryd.ntmps27
  go_wp2
  go_loopw [3, 4] (fun v i wr => ∃ k : Nat, k ≤ len ∧ i = .int .i64 k ∧ wr.ownsRow B 23 1 v k ((xs.take k).map bitsR) ∧ Below B w wr) (fun _ i _ => len - (intOf i).toNat)
  case atStart => exact ⟨0, Nat.zero_le _, rfl, World.ownsRow_nil _ _ _ _, Below.refl _ _⟩
  case round =>
    obtain ⟨k, hk, rfl, hown, hnx⟩ := hrel
    have hcx : k < len → wr.cell? ⟨b, off + k, none⟩ = some (.float .f64 (xs.getD k 0)) := fun hh => (hnx.cell (by exact HBB.out (by omega))).trans (hc k (by rw [HX.out]; exact hh))
    by_cases hlt : k < len
    · have hcell := hcx hlt
      clear hcx
      have htk := take_snoc_getD xs k (by rw [HX.out]; exact hlt)
      have HTK := Lib.hid htk
      clear htk
      generalize xs.getD k 0 = f at *
      go_wp2_with (first
        | (at_builtin; refine wpList_append_own _ rfl _ _ 41 rfl B 23 i0 (.int .u64 0) 1 8 Tryd.underlying41 hi hz0 hz1 hz2 rfl (by decide) _ _ _ rfl (hown.alloc _) ⟨wr.heap.size, 0, none⟩ 1 1 [.int .u64 f] rfl rfl ?c1 ?c2 ?c3 ?c4 ?c5 ?_)
        | (go_at_call 11; refine (bits_any _ _).mono ?_; rintro e w' ⟨rfl, rfl⟩))
      case c1 =>
        intro j u hj
        match j, hj with
        | 0, hj => simp at hj; subst hj; simp [Addr.add]
      case c2 => intro u hu; simp at hu; subst hu; rfl
      case c3 => unfold maxLen; omega
      case c4 => omega
      case c5 => have := hnx.size; have := HB.out; simp; omega
      · intro v' w1 hown' hgrow _
        have hs1 := hnx.size
        have hs2 := HB.out
        have hn1 : Below B w w1 := (hnx.alloc (by omega) _).grown hgrow (by simp; omega) (fun j hj => by have := (hown.lt j hj).1; omega)
        have hown1 : w1.ownsRow B 23 1 v' (k + 1) ((xs.take (k + 1)).map bitsR) := by
          rw [HTK.out, List.map_append, List.map_take]
          exact hown'
        clear hown' hgrow hown
        go_wp2
        go_roundw
        case rel => exact ⟨k + 1, by omega, num_i (by omega), hown1, hn1⟩
        case measure => simp [intOf]; omega
    · obtain rfl : k = len := by omega
      clear hcx
      go_wp2
      go_ret
      rw [List.take_of_length_le (by rw [HX.out]; omega)] at hown
      exact ⟨_, rfl, hown, hnx⟩
set_option maxHeartbeats 400000 in
theorem listR_nil (a : Option Addr) (cap : Nat) (w : World) : Calls Tryd.prog 27 #[.slice a 0 cap] w fun e w' => e = .returned (.slice none 0 0) ∧ w = w' := by
  go_enter Tryd.func27, Tryd.ntmps27
  go_wp2
  go_loop [3, 4] (fun s i => s = .slice none 0 0 ∧ i = .int .i64 0) (fun _ _ => 0)
  case atStart => exact ⟨rfl, rfl⟩
  case round =>
    obtain ⟨rfl, rfl⟩ := hrel
    go_wp2
    go_ret
    exact ⟨rfl, by trivial⟩
end Go.Proofs.YtdnifilmckialaaDoor
