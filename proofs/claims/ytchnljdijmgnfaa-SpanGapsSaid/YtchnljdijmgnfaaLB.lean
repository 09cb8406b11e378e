/- The laws on joined spans and on gaps. -/
import Derived.Test.YtchnljdijmgnfaaLV
namespace Go.Proofs.Ytchnljdijmgnfaa
open Go.RowKit
def anyB (xs : List (Int × Int)) (n : Int) : Bool := xs.any (fun x => hasB x n)
theorem anyB_iff (xs : List (Int × Int)) (n : Int) : anyB xs n = true ↔ mem xs n := by
  unfold anyB mem hasB
  rw [List.any_eq_true]
  constructor
  · rintro ⟨x, hx, h⟩
    exact ⟨x, hx, by simpa using h⟩
  · rintro ⟨x, hx, h⟩
    exact ⟨x, hx, by simpa using h⟩
theorem anyB_snoc (xs : List (Int × Int)) (k : Nat) (h : k < xs.length) (n : Int) : anyB (xs.take (k + 1)) n = (anyB (xs.take k) n || hasB (xs.getD k (0, 0)) n) := by
  rw [take_getD xs k h, anyB, List.any_append]
  simp [anyB]
theorem inV_0 {xs : List (Int × Int)} {n : Int} (h : ¬ mem xs n) : inV xs n = 0 := by
  unfold inV
  rw [List.countP_eq_zero]
  intro x hx hh
  exact h ⟨x, hx, by simpa [hasB] using hh⟩
theorem inV_1 {xs : List (Int × Int)} {n : Int} (hn : Norm xs) (h : mem xs n) : inV xs n = 1 := by
  induction xs with
  | nil => exact absurd h (by simp [mem])
  | cons x r ih =>
    obtain ⟨⟨_, h2⟩, h3⟩ := norm_cons.1 hn
    unfold inV at *
    rw [List.countP_cons]
    by_cases hx : x.1 ≤ n ∧ n ≤ x.2
    · have : ¬ mem r n := fun ⟨y, hy, k⟩ => by have := h2 y hy; omega
      have := inV_0 this
      unfold inV at this
      rw [this, if_pos (by simpa [hasB] using hx)]
    · rw [ih h3 (((mem_cons x r n).1 h).resolve_left hx), if_neg (by simpa [hasB] using hx)]
theorem inV_join {xs r : List (Int × Int)} (h : JoinR xs r) (n : Int) : (inV r n = 1 ∧ anyB xs n = true) ∨ (inV r n = 0 ∧ anyB xs n = false) := by
  by_cases hm : mem r n
  · exact .inl ⟨inV_1 h.norm hm, (anyB_iff xs n).2 ((h.mem n).1 hm)⟩
  · exact .inr ⟨inV_0 hm, by rw [← Bool.not_eq_true]; exact fun t => hm ((h.mem n).2 ((anyB_iff xs n).1 t))⟩
theorem inV_gap {r g : List (Int × Int)} {s : Int × Int} (h : GapR r s g) (hr : Norm r) (n : Int) : (hasB s n = false ∧ inV g n = 0) ∨ (hasB s n = true ∧ ((inV g n = 0 ∧ inV r n = 1) ∨ (inV g n = 1 ∧ inV r n = 0))) := by
  have hm := h.mem n
  by_cases hs : s.1 ≤ n ∧ n ≤ s.2
  · refine .inr ⟨by simpa [hasB] using hs, ?_⟩
    by_cases hn : mem r n
    · exact .inl ⟨inV_0 (fun t => (hm.1 t).2 hn), inV_1 hr hn⟩
    · exact .inr ⟨inV_1 h.norm (hm.2 ⟨hs, hn⟩), inV_0 hn⟩
  · exact .inl ⟨by rw [← Bool.not_eq_true]; simpa [hasB] using hs, inV_0 (fun t => hs (hm.1 t).1)⟩
set_option maxHeartbeats 4000000 in
theorem spanJoins_walk (v : Value) (xs : List (Int × Int)) (n : Int) (w : World) (h : IsL w w.heap.size v xs) : Calls Try.prog 4 #[v, .int .i64 n] w fun e w' => e = .returned (.bool true) ∧ Below w.heap.size w w' := by
  have HV := Lib.hid h
  obtain ⟨⟨A, cap, rfl, hcap, hA⟩, hfit, hlen⟩ := h
  have HA := Lib.hid hA
  have HLV := Lib.hid lives5
  clear hA hfit
  by_cases hl : 100 < xs.length
  · have hd : decide ((100 : Int) < (xs.length : Int)) = true := by (rw [decide_eq_true_eq]; omega)
    go_enter Try.func4, Try.ntmps4
    go_wp2_with fail
    refine (HLV.out _).mono ?_
    rintro e w1 ⟨rfl, hb1⟩
    have HB1 := Lib.hid hb1
    clear hb1
    go_wp2
    go_ret
    exact ⟨ret_b rfl, HB1.out⟩
  · have hd : decide ((100 : Int) < (xs.length : Int)) = false := by (rw [decide_eq_false_iff_not]; omega)
    have hl2 : xs.length ≤ 100 := by omega
    have HB0 := Lib.hid (Below.refl w.heap.size w)
    clear hl
    go_enter Try.func4, Try.ntmps4
    go_wp2_with fail
    refine (join_any _ xs _ HV.out (by omega)).mono ?_
    rintro e w1 ⟨v1, r, rfl, hj, hv1, hb1, _⟩
    have HJ := Lib.hid hj
    have HV1 := Lib.hid hv1
    have hrl : r.length ≤ 100 := by have := hj.len; omega
    have HB1 := Lib.hid hb1
    clear hj hv1 hb1
    go_wp2_with fail
    refine (HLV.out _).mono ?_
    rintro e w2 ⟨rfl, hb2⟩
    have HB2 := Lib.hid (Below.call HB1.out hb2)
    have HV2 := Lib.hid (HV1.out.then hb2)
    clear hb2
    go_wp2_with fail
    refine (rjoin_any _ xs _ (HV.out.then HB2.out) (by omega)).mono ?_
    rintro e w3 ⟨v3, r3, rfl, hj3, hv3, hb3, _⟩
    obtain rfl := HJ.out.unique hj3
    have HB3 := Lib.hid (Below.call HB2.out hb3)
    have HV3 := Lib.hid (HV2.out.then hb3)
    have HW3 := Lib.hid hv3
    clear hj3 hv3 hb3
    go_wp2_with fail
    refine (same_self _ _ r _ HV3.out HW3.out).mono ?_
    rintro e w4 ⟨rfl, hb4⟩
    have HB4 := Lib.hid (Below.call HB3.out hb4)
    have HV4 := Lib.hid (HV3.out.then hb4)
    clear hb4
    go_wp2_with fail
    refine (join_any _ r _ HV4.out (by omega)).mono ?_
    rintro e w5 ⟨v5, r5, rfl, hj5, hv5, hb5, _⟩
    obtain rfl := (JoinR.self HJ.out.norm).unique hj5
    have HB5 := Lib.hid (Below.call HB4.out hb5)
    have HV5 := Lib.hid (HV4.out.then hb5)
    have HW5 := Lib.hid hv5
    clear hj5 hv5 hb5
    go_wp2_with fail
    refine (same_self _ _ r _ HW5.out HV5.out).mono ?_
    rintro e w6 ⟨rfl, hb6⟩
    have HB6 := Lib.hid (Below.call HB5.out hb6)
    have HV6 := Lib.hid (HV5.out.then hb6)
    clear hb6
    go_wp2
    go_loopw [6, 7] (fun t i wr => ∃ k : Nat, k ≤ xs.length ∧ i = .int .i64 (k : Int) ∧ t = .bool (anyB (xs.take k) n) ∧ Below w6.heap.size w6 wr) (fun _ i _ => xs.length - (intOf i).toNat)
    case atStart => exact ⟨0, Nat.zero_le _, rfl, rfl, Below.refl _ _⟩
    case round =>
      obtain ⟨k, hk, rfl, rfl, hbr⟩ := hrel
      have HBR := Lib.hid hbr
      clear hbr
      by_cases hlt : k < xs.length
      · obtain ⟨b, off, rfl, hb, hcell⟩ := HA.out (by omega)
        have hx1 := (Below.call HB6.out HBR.out).cell (p := ⟨b, off + k * 2, none⟩) hb |>.trans (hcell k hlt).1
        have hx2 := (Below.call HB6.out HBR.out).cell (p := ⟨b, off + k * 2 + 1, none⟩) hb |>.trans (hcell k hlt).2
        have HS := Lib.hid (anyB_snoc xs k hlt n)
        clear hcell
        generalize xs.getD k (0, 0) = x at *
        cases hh : anyB (xs.take k) n
        · have HRH := Lib.hid (rhas_any x n)
          go_wp2_with fail
          refine (HRH.out _).mono ?_
          rintro e w7 ⟨rfl, hb7⟩
          have HB7 := Lib.hid (Below.call HBR.out hb7)
          clear hb7
          go_wp2
          go_roundw
          case rel => exact ⟨k + 1, by omega, num_i (by omega), by rw [HS.out, hh]; rfl, HB7.out⟩
          case measure => simp [intOf]; omega
        · go_wp2
          go_roundw
          case rel => exact ⟨k + 1, by omega, num_i (by omega), by rw [HS.out, hh]; rfl, HBR.out⟩
          case measure => simp [intOf]; omega
      · obtain rfl : k = xs.length := by omega
        have HIN := Lib.hid (in_any _ r n wr (HV6.out.then HBR.out))
        have HIN2 := Lib.hid (fun w' (hb : Below wr.heap.size wr w') => in_any _ r n w' ((HV6.out.then HBR.out).then hb))
        have hc := inV_join HJ.out n
        rw [List.take_length]
        generalize inV r n = m at *
        generalize anyB xs n = t at *
        rcases hc with ⟨rfl, rfl⟩ | ⟨rfl, rfl⟩
        all_goals
          go_wp2_with fail
          refine (HIN.out).mono ?_
          rintro e w8 ⟨rfl, hb8⟩
          have HB8 := Lib.hid hb8
          clear hb8
          go_wp2_with fail
          refine (HIN2.out _ HB8.out).mono ?_
          rintro e w9 ⟨rfl, hb9⟩
          have HB9 := Lib.hid (Below.call HB8.out hb9)
          clear hb9
          go_wp2
          go_ret
          exact ⟨ret_b rfl, Below.call (Below.call HB6.out HBR.out) HB9.out⟩
set_option maxHeartbeats 4000000 in
theorem spanGaps_walk (v : Value) (xs : List (Int × Int)) (s : Int × Int) (n : Int) (w : World) (h : IsL w w.heap.size v xs) (hs : fits s.1 ∧ fits s.2) : Calls Try.prog 5 #[v, .agg #[.int .i64 s.1, .int .i64 s.2], .int .i64 n] w fun e w' => e = .returned (.bool true) ∧ Below w.heap.size w w' := by
  have HV := Lib.hid h
  have HFS := Lib.hid hs
  obtain ⟨s1, s2⟩ := s
  obtain ⟨⟨A, cap, rfl, hcap, hA⟩, hfit, hlen⟩ := h
  have HLV := Lib.hid lives5
  clear hA hfit hs
  have HB0 := Lib.hid (Below.al (Below.refl w.heap.size w) (.cells #[.int .i64 s1, .int .i64 s2] 23))
  have C0 := Lib.hid (cell2_new w (s1, s2))
  by_cases hl : 100 < xs.length
  · have hd : decide ((100 : Int) < (xs.length : Int)) = true := by (rw [decide_eq_true_eq]; omega)
    go_enter Try.func5, Try.ntmps5
    go_wp2_with fail
    refine (HLV.out _).mono ?_
    rintro e w1 ⟨rfl, hb1⟩
    have HB1 := Lib.hid (Below.call HB0.out hb1)
    clear hb1
    go_wp2
    go_ret
    exact ⟨ret_b rfl, HB1.out⟩
  · have hd : decide ((100 : Int) < (xs.length : Int)) = false := by (rw [decide_eq_false_iff_not]; omega)
    have hl2 : xs.length ≤ 100 := by omega
    clear hl
    go_enter Try.func5, Try.ntmps5
    go_wp2_with fail
    refine (gaps_any _ xs (s1, s2) HFS.out _ (HV.out.then HB0.out) (by omega)).mono ?_
    rintro e w1 ⟨v1, r, g, rfl, hj, hg, hv1, hb1⟩
    have HJ := Lib.hid hj
    have HG := Lib.hid hg
    have HV1 := Lib.hid hv1
    have hgl : g.length ≤ 101 := by have := hj.len; have := hg.len; omega
    have C1 := Lib.hid (C0.out.below hb1)
    have HB1 := Lib.hid (Below.call HB0.out hb1)
    clear hj hg hv1 hb1
    go_wp2_with fail
    refine (HLV.out _).mono ?_
    rintro e w2 ⟨rfl, hb2⟩
    have HB2 := Lib.hid (Below.call HB1.out hb2)
    have HV2 := Lib.hid (HV1.out.then hb2)
    have C2 := C1.out.below hb2
    have c0 := C2.c0
    have c1 := C2.c1
    have HC2 := Lib.hid C2
    clear C2
    clear hb2
    go_wp2_with fail
    refine (rgaps_any _ xs (s1, s2) HFS.out _ (HV.out.then HB2.out) (by omega)).mono ?_
    rintro e w3 ⟨v3, g3, rfl, hg3, hv3, hb3⟩
    obtain rfl := HG.out.unique (hg3 r HJ.out)
    have HB3 := Lib.hid (Below.call HB2.out hb3)
    have HV3 := Lib.hid (HV2.out.then hb3)
    have HC3 := Lib.hid (HC2.out.below hb3)
    have HW3 := Lib.hid hv3
    clear hg3 hv3 hb3 c0 c1
    go_wp2_with fail
    refine (same_self _ _ g _ HV3.out HW3.out).mono ?_
    rintro e w4 ⟨rfl, hb4⟩
    have HB4 := Lib.hid (Below.call HB3.out hb4)
    have HV4 := Lib.hid (HV3.out.then hb4)
    have HC4 := Lib.hid (HC3.out.below hb4)
    clear hb4
    go_wp2_with fail
    refine (join_any _ g _ HV4.out (by omega)).mono ?_
    rintro e w5 ⟨v5, r5, rfl, hj5, hv5, hb5, _⟩
    obtain rfl := (HG.out.joined hj5).symm
    have HB5 := Lib.hid (Below.call HB4.out hb5)
    have HV5 := Lib.hid (HV4.out.then hb5)
    have HC5 := Lib.hid (HC4.out.below hb5)
    have HW5 := Lib.hid hv5
    clear hj5 hv5 hb5
    go_wp2_with fail
    refine (same_self _ _ g _ HW5.out HV5.out).mono ?_
    rintro e w6 ⟨rfl, hb6⟩
    have HB6 := Lib.hid (Below.call HB5.out hb6)
    have HV6 := Lib.hid (HV5.out.then hb6)
    have C6 := HC5.out.below hb6
    have c0 := C6.c0
    have c1 := C6.c1
    clear C6
    clear hb6
    have HRH := Lib.hid (rhas_any (s1, s2) n)
    simp only at HRH
    have hcs := inV_gap HG.out HJ.out.norm n
    have HIN := Lib.hid (fun w' (hb : Below w6.heap.size w6 w') => in_any _ g n w' (HV6.out.then hb))
    have HIR := Lib.hid (fun (v' : Value) (w' : World) (hr : IsL w' w'.heap.size v' r) => in_any v' r n w' hr)
    generalize inV g n = m at *
    generalize inV r n = m2 at *
    generalize hasB (s1, s2) n = t at *
    rcases hcs with ⟨rfl, rfl⟩ | ⟨rfl, hcs⟩
    · go_wp2_with fail
      refine (HRH.out _).mono ?_
      rintro e w7 ⟨rfl, hb7⟩
      have HB7 := Lib.hid hb7
      clear hb7
      go_wp2_with fail
      refine (HIN.out _ HB7.out).mono ?_
      rintro e w8 ⟨rfl, hb8⟩
      have HB8 := Lib.hid (Below.call HB7.out hb8)
      clear hb8
      go_wp2
      go_ret
      exact ⟨ret_b rfl, Below.call HB6.out HB8.out⟩
    · rcases hcs with ⟨rfl, rfl⟩ | ⟨rfl, rfl⟩
      all_goals
        go_wp2_with fail
        refine (HRH.out _).mono ?_
        rintro e w7 ⟨rfl, hb7⟩
        have HB7 := Lib.hid hb7
        clear hb7
        go_wp2_with fail
        refine (HIN.out _ HB7.out).mono ?_
        rintro e w8 ⟨rfl, hb8⟩
        have HB8 := Lib.hid (Below.call HB7.out hb8)
        clear hb8
        go_wp2_with fail
        refine (join_any _ xs _ (HV.out.then (Below.call HB6.out HB8.out)) (by omega)).mono ?_
        rintro e w9 ⟨v9, r9, rfl, hj9, hv9, hb9, _⟩
        obtain rfl := HJ.out.unique hj9
        have HB9 := Lib.hid (Below.call HB8.out hb9)
        have HV9 := Lib.hid hv9
        clear hj9 hv9 hb9
        go_wp2_with fail
        refine (HIR.out _ _ HV9.out).mono ?_
        rintro e w10 ⟨rfl, hb10⟩
        have HB10 := Lib.hid (Below.call HB9.out hb10)
        clear hb10
        go_wp2
        go_ret
        exact ⟨ret_b rfl, Below.call HB6.out HB10.out⟩
end Go.Proofs.Ytchnljdijmgnfaa
