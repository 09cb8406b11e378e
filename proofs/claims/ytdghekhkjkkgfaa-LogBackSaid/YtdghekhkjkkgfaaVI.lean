/- Logs: two that are the same are told to be. -/
import Derived.Test.YtdghekhkjkkgfaaVC
namespace Go.Proofs.Ytdghekhkjkkgfaa
open Go.RowKit

set_option maxRecDepth 100000 in
set_option maxHeartbeats 1000000 in
theorem sameList_any (A A2 : Option Addr) (c c2 : Nat) (xs : List Ch) (w : World) (hv : KC.IsL w w.heap.size (.slice A xs.length c) xs) (hu : KC.IsL w w.heap.size (.slice A2 xs.length c2) xs) : Calls Try.prog 20 #[.slice A xs.length c, .slice A2 xs.length c2] w fun e w' => e = .returned (.bool true) ∧ Below w.heap.size w w' := by
  have HV := Lib.hid hv
  have HU := Lib.hid hu
  have hl := hv.2.2
  clear hv hu
  go_enter Try.func20, Try.ntmps20
  go_wp2
  go_loopw [5] (fun i wr => ∃ k : Nat, i = .int .i64 k ∧ k ≤ xs.length ∧ Below w.heap.size w wr) (fun i _ => xs.length - (intOf i).toNat)
  case atStart => exact ⟨0, rfl, Nat.zero_le _, Below.refl _ _⟩
  case round =>
    obtain ⟨k, rfl, hk, hbl⟩ := hrel
    have HB := Lib.hid hbl
    clear hbl
    by_cases hlt : k < xs.length
    · obtain ⟨b1, o1, rfl, hb1, hc1, hcell1⟩ := ch_cells (HV.out.below HB.out) (by omega)
      obtain ⟨b2, o2, rfl, hb2, hc2, hcell2⟩ := ch_cells (HU.out.below HB.out) (by omega)
      obtain ⟨e1, e2, e3⟩ := hcell1 k hlt
      obtain ⟨f1, f2, f3⟩ := hcell2 k hlt
      clear hcell1 hcell2
      generalize xs.getD k ch0 = q at *
      obtain ⟨a, b, n⟩ := q
      dsimp only at *
      go_wp2_with fail
      go_quiet (fail)
      go_wp2
      go_roundw
      case rel => exact ⟨k + 1, num_i (by omega), by omega, below_drewN HB.out _⟩
      case measure => simp [intOf]; omega
    · obtain rfl : k = xs.length := by omega
      go_wp2
      go_ret
      exact ⟨rfl, HB.out⟩

set_option maxRecDepth 100000 in
set_option maxHeartbeats 1000000 in
theorem same_any (r l : Int) (A A2 : Option Addr) (c c2 : Nat) (xs : List Ch) (w : World) (hv : KC.IsL w w.heap.size (.slice A xs.length c) xs) (hu : KC.IsL w w.heap.size (.slice A2 xs.length c2) xs) : Calls Try.prog 12 #[lgV r l A xs.length c, lgV r l A2 xs.length c2] w fun e w' => e = .returned (.bool true) ∧ Below w.heap.size w w' := by
  have HL := Lib.hid (fun w h1 h2 => sameList_any A A2 c c2 xs w h1 h2)
  have HB := Lib.hid (show Below w.heap.size w ((w.alloc (.cells #[.int .i64 r, .int .i64 l, .slice A xs.length c] 24)).alloc (.cells #[.int .i64 r, .int .i64 l, .slice A2 xs.length c2] 24)) from Below.al (Below.al (Below.refl _ _) _) _)
  have HV := Lib.hid (hv.then HB.out)
  have HU := Lib.hid (hu.then HB.out)
  clear hv hu
  go_enter Try.func12, Try.ntmps12
  go_wp2_with fail
  refine (HL.out _ HV.out HU.out).mono ?_
  rintro e w2 ⟨rfl, hb2⟩
  have HB2 := Lib.hid (Below.call HB.out hb2)
  clear hb2
  go_wp2
  go_ret
  exact ⟨rfl, HB2.out⟩
end Go.Proofs.Ytdghekhkjkkgfaa
