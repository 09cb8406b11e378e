/- The laws on texts of numbers and on parts of a number. -/
import Derived.Test.YtjpojidpmmodnaaNH
namespace Go.Proofs.Ytjpojidpmmodnaa
open Go.RowKit

theorem maxLen_le (s : ByteArray) (h : s.size ≤ maxLen) : s.data.toList.length ≤ 9223372036854775807 := by
  unfold maxLen at h
  have : s.size = s.data.toList.length := rfl
  omega
theorem text_back (l : List UInt8) : (prsE l = 0 ∧ txt (prsV l) = l ∧ fits (prsV l)) ∨ prsE l = 30 := by
  cases h : prs l with
  | none => right; rw [prsE, h]; rfl
  | some n =>
    left
    have e := prs_back l n h
    have ev : prsV l = n := by rw [prsV, h]; rfl
    rw [ev]
    exact ⟨by rw [prsE, h]; rfl, e.1, e.2⟩
set_option maxHeartbeats 1000000 in
theorem numTexts_walk (n : Int) (s : ByteArray) (hn : fits n) (hm : s.size ≤ maxLen) (w : World) : Calls Try.prog 7 #[.int .i64 n, .string s] w fun e w' => e = .returned (.bool true) ∧ Below w.heap.size w w' := by
  have hs : IsT s s.data.toList := ⟨rfl⟩
  have hm' := maxLen_le s hm
  have hsl := hs.list
  generalize s.data.toList = l at *
  have HS := Lib.hid hs
  have HN := Lib.hid hn
  have HM := Lib.hid hm'
  have htl : (txt n).length ≤ 9223372036854775807 := by
    have := dig_19 n.natAbs (by unfold fits at hn; omega)
    unfold txt
    split
    · rw [List.length_cons]; omega
    · omega
  have hpt : prsV (txt n) = n ∧ prsE (txt n) = 0 := by
    rw [prsV, prsE, prs_txt n hn]
    exact ⟨rfl, rfl⟩
  obtain ⟨hp1, hp2⟩ := hpt
  have hp := parse_any ⟨(txt n).toArray⟩ (txt n) ⟨rfl⟩ htl
  rw [hp1, hp2] at hp
  have HP := Lib.hid hp
  have htb := text_back l
  have HTB := Lib.hid htb
  clear hs hn hm hm' htl hp1 hp2 hp htb
  go_enter Try.func7, Try.ntmps7
  go_wp2_with fail
  refine (text_any n HN.out _).mono ?_
  rintro e w1 ⟨rfl, hb⟩
  have HB1 := Lib.hid hb
  clear hb
  go_wp2_with fail
  refine (HP.out _).mono ?_
  rintro e w2 ⟨rfl, hb⟩
  have HB2 := Lib.hid (HB1.out.trans (hb.mono HB1.out.size))
  clear hb HB1
  go_wp2_with fail
  refine (parse_any s l HS.out HM.out _).mono ?_
  rintro e w3 ⟨rfl, hb⟩
  have HB3 := Lib.hid (HB2.out.trans (hb.mono HB2.out.size))
  clear hb HB2
  go_wp2_with fail
  refine (rparse_any s l HS.out HM.out _).mono ?_
  rintro e w' ⟨rfl, rfl⟩
  go_wp2_with fail
  refine (lives3 _).mono ?_
  rintro e w4 ⟨rfl, hb⟩
  have HB4 := Lib.hid (HB3.out.trans (hb.mono HB3.out.size))
  clear hb HB3
  go_wp2_with fail
  refine (rtext_any n HN.out _).mono ?_
  rintro e w' ⟨rfl, rfl⟩
  rcases HTB.out with ⟨hE, hV, hF⟩ | hE
  · have hb : (txt (prsV l) == l) = true := by rw [beq_iff_eq]; exact hV
    have HF := Lib.hid hF
    clear hF hV
    go_wp2_with fail
    refine (text_any _ HF.out _).mono ?_
    rintro e w5 ⟨rfl, hb5⟩
    have HB5 := Lib.hid (HB4.out.trans (hb5.mono HB4.out.size))
    clear hb5 HB4
    go_wp2
    go_ret
    exact ⟨ret_b (by simp), HB5.out⟩
  · go_wp2
    go_ret
    exact ⟨ret_b (by simp), HB4.out⟩

theorem share_parts (n p k : Int) (hp : 1 ≤ p) : n / p ≤ (k + 1) * n / p - k * n / p ∧ (k + 1) * n / p - k * n / p ≤ n / p + 1 := by
  have hp0 : 0 < p := by omega
  rw [Int.add_mul, Int.one_mul]
  generalize k * n = a
  have a1 := Int.mul_ediv_self_le (x := a) (k := p) (by omega)
  have a2 := Int.lt_mul_ediv_self_add (x := a) hp0
  have b1 := Int.mul_ediv_self_le (x := n) (k := p) (by omega)
  have b2 := Int.lt_mul_ediv_self_add (x := n) hp0
  have c1 : a / p + n / p ≤ (a + n) / p := by
    rw [Int.le_ediv_iff_mul_le hp0, Int.add_mul, Int.mul_comm (a / p), Int.mul_comm (n / p)]
    omega
  have c2 : (a + n) / p < a / p + n / p + 2 := by
    rw [Int.ediv_lt_iff_lt_mul hp0, Int.add_mul, Int.add_mul, Int.mul_comm (a / p), Int.mul_comm (n / p)]
    omega
  omega
set_option maxHeartbeats 1000000 in
theorem numShares_walk (n p i : Int) (_ : fits n) (_ : fits p) (_ : fits i) (w : World) : Calls Try.prog 6 #[.int .i64 n, .int .i64 p, .int .i64 i] w fun e w' => e = .returned (.bool true) ∧ Below w.heap.size w w' := by
  by_cases h : 0 ≤ n ∧ n ≤ 1099511627776 ∧ 1 ≤ p ∧ p ≤ 65536
  · obtain ⟨h1, h2, h3, h4⟩ := h
    have hp0 : (p == 0) = false := by rw [beq_eq_false_iff_ne]; omega
    obtain ⟨Q, hQ⟩ : ∃ Q, Q = n / p := ⟨_, rfl⟩
    have q1 : 0 ≤ Q := by rw [hQ]; exact Int.ediv_nonneg h1 (by omega)
    have q2 : Q ≤ n := by rw [hQ]; exact Int.ediv_le_self p h1
    have hq : wrap64 (n.tdiv p) = Q := by rw [Int.tdiv_eq_ediv_of_nonneg h1, ← hQ, wrap64_fits _ (by constructor <;> omega)]
    have HQ := Lib.hid hQ
    clear hQ
    go_enter Try.func6, Try.ntmps6
    go_wp2_with fail
    refine (share_any n p i _).mono ?_
    rintro e w' ⟨rfl, d, rfl⟩
    go_wp2_with fail
    refine (lives3 _).mono ?_
    rintro e w1 ⟨rfl, hb⟩
    have HB1 := Lib.hid ((below_drewN (Below.refl w.heap.size w) d).trans hb)
    clear hb
    go_wp2_with fail
    refine (rshare_any n p i _).mono ?_
    rintro e w' ⟨rfl, d2, rfl⟩
    go_wp2
    go_loopw [8, 9] (fun sm k wr => ∃ j d : Nat, (j : Int) ≤ p ∧ k = .int .i64 (j : Int) ∧ sm = .int .i64 ((j : Int) * n / p) ∧ wr = w1.drewN d) (fun _ k _ => p.toNat - (intOf k).toNat)
    case atStart => exact ⟨0, d2, by omega, rfl, by simp, rfl⟩
    case round =>
      obtain ⟨j, d3, hj, rfl, rfl, rfl⟩ := hrel
      have hs := share_parts n p j h3
      have hsum : (j : Int) * n / p ≤ n := by
        have : (j : Int) * n ≤ p * n := Int.mul_le_mul_of_nonneg_right hj h1
        have e := Int.ediv_le_ediv (show 0 < p by omega) this
        rwa [Int.mul_ediv_cancel_left n (by omega : p ≠ 0)] at e
      have hs0 : 0 ≤ (j : Int) * n / p := Int.ediv_nonneg (Int.mul_nonneg (by omega) h1) (by omega)
      by_cases hlt : (j : Int) < p
      · have hsh : shr n p j = ((j : Int) + 1) * n / p - (j : Int) * n / p := by rw [shr, if_pos ⟨h1, h2, h3, h4, by omega, hlt⟩]
        have HSH := Lib.hid hsh
        rw [← hsh, ← HQ.out] at hs
        obtain ⟨hs1, hs2⟩ := hs
        clear hsh
        generalize hy : shr n p j = y at *
        generalize hz : (j : Int) * n / p = z at *
        have HY := Lib.hid hy
        have HZ := Lib.hid hz
        clear hy hz
        go_wp2_with fail
        refine (share_any n p j _).mono ?_
        rintro e w' ⟨rfl, d4, rfl⟩
        rw [HY.out]
        have hq2 : n / p = Q := HQ.out.symm
        clear hq
        go_wp2
        go_roundw
        case rel => exact ⟨j + 1, _, by omega, num_i (by omega), num_i (by have := HSH.out; rw [Int.natCast_add, Int.natCast_one]; omega), rfl⟩
        case measure => simp [intOf]; omega
      · have hjp : (j : Int) = p := by omega
        have hend : (j : Int) * n / p = n := by rw [hjp]; exact Int.mul_ediv_cancel_left n (by omega)
        generalize (j : Int) * n / p = z at *
        go_wp2
        go_ret
        exact ⟨rfl, below_drewN HB1.out _⟩
  · have HD := Lib.hid h
    clear h
    go_enter Try.func6, Try.ntmps6
    go_wp2_with fail
    refine (share_any n p i _).mono ?_
    rintro e w' ⟨rfl, d, rfl⟩
    go_wp2_with fail
    refine (lives3 _).mono ?_
    rintro e w1 ⟨rfl, hb⟩
    have HB1 := Lib.hid ((below_drewN (Below.refl w.heap.size w) d).trans hb)
    clear hb
    go_wp2_with fail
    refine (rshare_any n p i _).mono ?_
    rintro e w' ⟨rfl, d2, rfl⟩
    go_wp2
    all_goals first
      | (exfalso; have := HD.out; omega)
      | (go_ret; exact ⟨rfl, below_drewN HB1.out _⟩)
end Go.Proofs.Ytjpojidpmmodnaa
