/- What must come of every program (layer 3), and the law on sum, difference and product of any two numbers. -/
import Derived.Test.YtjpojidpmmodnaaNG
import Derived.Test.YtjpojidpmmodnaaNB
import Derived.Test.YtjpojidpmmodnaaLW
namespace Go.Proofs.Ytjpojidpmmodnaa
open Go.RowKit

theorem prs_m12 : prsV [45, 49, 50] = -12 ∧ prsE [45, 49, 50] = 0 := by
  have h := prs_txt (-12) (by decide)
  have e : txt (-12) = [45, 49, 50] := by
    rw [txt, if_pos (by decide), show (-12 : Int).natAbs = 12 from rfl, dig_great 12 (by decide), dig_small _ (by decide)]
    rfl
  rw [e] at h
  rw [prsV, prsE, h]
  exact ⟨rfl, rfl⟩
theorem txt_m5 : txt (-5) = [45, 53] := by
  rw [txt, if_pos (by decide), show (-5 : Int).natAbs = 5 from rfl, dig_small _ (by decide)]
  rfl
set_option maxHeartbeats 1000000 in
theorem lives3 (w : World) : Calls Try.prog 17 #[] w fun e w' => e = .returned (.bool true) ∧ Below w.heap.size w w' := by
  have hp := prs_m12
  have ht := txt_m5
  have ha1 : fitV (3 + 4) = 7 := by decide
  have ha2 : fitE (3 + 4) = 0 := by decide
  have hb1 : fitV (-9223372036854775808 - 1) = 0 := by decide
  have hb2 : fitE (-9223372036854775808 - 1) = 4 := by decide
  have hc1 : modV (-1) 5 = 4 := by decide
  have hd1 : shr 10 4 1 = 3 := by decide
  go_enter Try.func17, Try.ntmps17
  go_wp2_with fail
  refine (add_any 3 4 (by decide) (by decide) _).mono ?_
  rintro e w' ⟨rfl, rfl⟩
  go_wp2_with fail
  refine (sub_any (-9223372036854775808) 1 (by decide) (by decide) _).mono ?_
  rintro e w' ⟨rfl, rfl⟩
  go_wp2_with fail
  refine (parse_any ⟨#[45, 49, 50]⟩ [45, 49, 50] ⟨rfl⟩ (by decide) _).mono ?_
  rintro e w1 ⟨rfl, hb⟩
  have HB := Lib.hid hb
  clear hb
  go_wp2_with fail
  refine (mod_any (-1) 5 (by decide) (by decide) _).mono ?_
  rintro e w' ⟨rfl, rfl⟩
  go_wp2_with fail
  refine (share_any 10 4 1 _).mono ?_
  rintro e w' ⟨rfl, d, rfl⟩
  go_wp2_with fail
  refine (text_any (-5) (by decide) _).mono ?_
  rintro e w2 ⟨rfl, hb⟩
  have HB2 := Lib.hid hb
  clear hb
  go_wp2
  go_ret
  exact ⟨ret_b rfl, (below_drewN HB.out d).trans (HB2.out.mono HB.out.size)⟩
set_option maxHeartbeats 1000000 in
theorem numTwo_walk (a b : Int) (ha : fits a) (hb : fits b) (w : World) : Calls Try.prog 3 #[.int .i64 a, .int .i64 b] w fun e w' => e = .returned (.bool true) ∧ Below w.heap.size w w' := by
  have HA := Lib.hid ha
  have HB := Lib.hid hb
  clear ha hb
  go_enter Try.func3, Try.ntmps3
  go_wp2_with fail
  refine (add_any a b HA.out HB.out _).mono ?_
  rintro e w' ⟨rfl, rfl⟩
  go_wp2_with fail
  refine (sub_any a b HA.out HB.out _).mono ?_
  rintro e w' ⟨rfl, rfl⟩
  go_wp2_with fail
  refine (mul_any a b HA.out HB.out _).mono ?_
  rintro e w' ⟨rfl, rfl⟩
  go_wp2_with fail
  refine (radd_any a b HA.out HB.out _).mono ?_
  rintro e w' ⟨rfl, rfl⟩
  go_wp2_with fail
  refine (rsub_any a b HA.out HB.out _).mono ?_
  rintro e w' ⟨rfl, rfl⟩
  go_wp2_with fail
  refine (rmul_any a b HA.out HB.out _).mono ?_
  rintro e w' ⟨rfl, rfl⟩
  go_wp2_with fail
  refine (lives3 _).mono ?_
  rintro e w1 ⟨rfl, hbl⟩
  have HL := Lib.hid hbl
  clear hbl
  go_wp2
  go_ret
  exact ⟨ret_b (by simp), HL.out⟩
set_option maxHeartbeats 1000000 in
theorem numRanges_walk (n lo hi : Int) (hn : fits n) (hlo : fits lo) (hhi : fits hi) (w : World) : Calls Try.prog 5 #[.int .i64 n, .int .i64 lo, .int .i64 hi] w fun e w' => e = .returned (.bool true) ∧ Below w.heap.size w w' := by
  have HN := Lib.hid hn
  have HA := Lib.hid hlo
  have HB := Lib.hid hhi
  clear hn hlo hhi
  go_enter Try.func5, Try.ntmps5
  go_wp2_with fail
  refine (lives3 _).mono ?_
  rintro e w1 ⟨rfl, hbl⟩
  have HL := Lib.hid hbl
  clear hbl
  go_wp2_with fail
  refine (between_any n lo hi _).mono ?_
  rintro e w' ⟨rfl, rfl⟩
  go_wp2_with fail
  refine (rbetween_any n lo hi _).mono ?_
  rintro e w' ⟨rfl, rfl⟩
  go_wp2_with fail
  refine (mod_any n lo HN.out HA.out _).mono ?_
  rintro e w' ⟨rfl, rfl⟩
  go_wp2_with fail
  refine (rmod_any n lo HN.out HA.out _).mono ?_
  rintro e w' ⟨rfl, rfl⟩
  go_wp2_with fail
  refine (mod_any n hi HN.out HB.out _).mono ?_
  rintro e w' ⟨rfl, rfl⟩
  go_wp2_with fail
  refine (rmod_any n hi HN.out HB.out _).mono ?_
  rintro e w' ⟨rfl, rfl⟩
  go_wp2
  go_ret
  exact ⟨ret_b (by simp), HL.out⟩
end Go.Proofs.Ytjpojidpmmodnaa
