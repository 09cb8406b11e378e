/- What must come of every program (layer 11). -/
import Derived.Test.YtdghekhkjkkgfaaVL
namespace Go.Proofs.Ytdghekhkjkkgfaa
open Go.RowKit

theorem rt_l (b : Bool) (h : b = true) : Ending.returned (.bool b) = .returned (.bool true) := by rw [h]
set_option maxRecDepth 100000 in
set_option maxHeartbeats 2000000 in
theorem lives11_any (w : World) : Calls Try.prog 9 #[] w fun e w' => e = .returned (.bool true) ∧ Below w.heap.size w w' := by
  have H1 := Lib.hid (fun w => new_any 2 w)
  rw [show newR 2 = 2 from rfl, show newE 2 = 0 from rfl] at H1
  have H2 := Lib.hid (fun w h => note_ok 2 0 none 0 [] 1 5 (by decide) w h)
  rw [show ntL 2 0 [] 1 5 = [⟨1, 1, 5⟩] from rfl, show (0 : Int) + 1 = 1 from rfl] at H2
  have H3 := Lib.hid (fun A c w h => note_ok 2 1 A c [⟨1, 1, 5⟩] 2 (-3) (by decide) w h)
  rw [show ntL 2 1 [⟨1, 1, 5⟩] 2 (-3) = [⟨1, 1, 5⟩, ⟨2, 2, -3⟩] from rfl, show (1 : Int) + 1 = 2 from rfl] at H3
  have H4 := Lib.hid (fun A c w h => note_ok 2 2 A c [⟨1, 1, 5⟩, ⟨2, 2, -3⟩] 1 4 (by decide) w h)
  rw [show ntL 2 2 [⟨1, 1, 5⟩, ⟨2, 2, -3⟩] 1 4 = [⟨2, 2, -3⟩, ⟨3, 1, 4⟩] from rfl, show (2 : Int) + 1 = 3 from rfl] at H4
  have H5 := Lib.hid (fun A c w h => since_ok 2 3 A c [⟨2, 2, -3⟩, ⟨3, 1, 4⟩] 1 (by decide) w h)
  rw [show snL 3 [⟨2, 2, -3⟩, ⟨3, 1, 4⟩] 1 = [⟨2, 2, -3⟩, ⟨3, 1, 4⟩] from rfl] at H5
  have H6 := Lib.hid (fun A c w h => since_bad 2 3 A c [⟨2, 2, -3⟩, ⟨3, 1, 4⟩] 0 (by decide) w h)
  rw [show snE 2 3 [⟨2, 2, -3⟩, ⟨3, 1, 4⟩] 0 = 111 by decide] at H6
  have H7 := Lib.hid (fun A c w h => at_any 2 3 A c [⟨2, 2, -3⟩, ⟨3, 1, 4⟩] 6 1 (by unfold fits; omega) w h)
  rw [show atV 2 3 [⟨2, 2, -3⟩, ⟨3, 1, 4⟩] 6 1 = 5 by decide, show atE 2 3 [⟨2, 2, -3⟩, ⟨3, 1, 4⟩] 6 1 = 0 by decide] at H7
  have H8 := Lib.hid (fun A c w h => net_any 2 3 A c [⟨2, 2, -3⟩, ⟨3, 1, 4⟩] 1 w h)
  rw [show netV 2 3 [⟨2, 2, -3⟩, ⟨3, 1, 4⟩] 1 = 4 by decide] at H8
  have H9 := Lib.hid (fun A c w h => right_any' 2 3 A c [⟨2, 2, -3⟩, ⟨3, 1, 4⟩] w h)
  rw [show rgB 2 3 [⟨2, 2, -3⟩, ⟨3, 1, 4⟩] = true by decide] at H9
  have HQ := Lib.hid (show ([⟨2, 2, -3⟩, ⟨3, 1, 4⟩] : List Ch).getD 0 ch0 = ⟨2, 2, -3⟩ from rfl)
  go_enter Try.func9, Try.ntmps9
  go_wp2_with fail
  refine (H1.out _).mono ?_
  rintro e w1 ⟨rfl, hb1⟩
  have HB1 := Lib.hid hb1
  clear hb1
  obtain ⟨v1, hv1⟩ : ∃ v1, v1 = w1.alloc (.cells #[.int .i64 2, .int .i64 0, .slice none 0 0] 24) := ⟨_, rfl⟩
  have HC1 := Lib.hid (show Cells3 v1 w1.heap.size (.int .i64 2) (.int .i64 0) (.slice none 0 0) by rw [hv1]; exact Cells3.new w1 _ _ _ _)
  have HV1 := Lib.hid (show Below w.heap.size w v1 by rw [hv1]; exact Below.al HB1.out _)
  have HL1 := Lib.hid (show w.heap.size ≤ w1.heap.size from HB1.out.size)
  go_wp2_with fail
  rw [← hv1]
  clear hv1 HB1
  generalize w1.heap.size = G at *
  have HI1 := Lib.hid (show KC.IsL v1 v1.heap.size (.slice none 0 0) [] from Lk.IsL.nil _ _ _ _)
  have hlt1 : G < v1.heap.size := HC1.out.2.2.2.2.2.2
  refine (H2.out _ HI1.out).mono ?_
  rintro e w2 ⟨A2, c2, rfl, ho, hb⟩
  have HC := Lib.hid (HC1.out.below hb)
  have HB := Lib.hid (Below.call HV1.out hb)
  obtain ⟨v2, hv⟩ : ∃ v, v = ((w2.setCell ⟨G, 0, none⟩ (.int .i64 2)).setCell ⟨G, 1, none⟩ (.int .i64 1)).setCell ⟨G, 2, none⟩ (.slice A2 1 c2) := ⟨_, rfl⟩
  have HO := Lib.hid (((ho.set (a := ⟨G, 0, none⟩) hlt1 (.int .i64 2)).set (a := ⟨G, 1, none⟩) hlt1 (.int .i64 1)).set (a := ⟨G, 2, none⟩) hlt1 (.slice A2 1 c2))
  have HI2 := Lib.hid (show KC.IsL v2 v2.heap.size (.slice A2 1 c2) [⟨1, 1, 5⟩] by rw [hv]; exact HO.out.isL (by simp))
  have HC2 := Lib.hid (show Cells3 v2 G (.int .i64 2) (.int .i64 1) (.slice A2 1 c2) by rw [hv]; exact HC.out.set _ _ _)
  have HV2 := Lib.hid (show Below w.heap.size w v2 by rw [hv]; exact below_set3 HB.out HL1.out _ _ _)
  clear ho hb HO HC1 HV1 HI1 hlt1 HB
  obtain ⟨a0, a1, a2, z0, z1, z2, _⟩ := HC.out
  obtain ⟨b0, b1, b2, _⟩ := HC2.out
  rw [hv] at b0 b1 b2
  simp only [List.length_cons, List.length_nil, Nat.zero_add]
  go_wp2_with fail
  rw [← hv]
  clear hv a0 a1 a2 z0 z1 z2 b0 b1 b2 HC
  have hlt2 : G < v2.heap.size := HC2.out.2.2.2.2.2.2
  refine (H3.out _ _ _ HI2.out).mono ?_
  rintro e w3 ⟨A3, c3, rfl, ho, hb⟩
  have HC := Lib.hid (HC2.out.below hb)
  have HB := Lib.hid (Below.call HV2.out hb)
  obtain ⟨v3, hv⟩ : ∃ v, v = ((w3.setCell ⟨G, 0, none⟩ (.int .i64 2)).setCell ⟨G, 1, none⟩ (.int .i64 2)).setCell ⟨G, 2, none⟩ (.slice A3 2 c3) := ⟨_, rfl⟩
  have HO := Lib.hid (((ho.set (a := ⟨G, 0, none⟩) hlt2 (.int .i64 2)).set (a := ⟨G, 1, none⟩) hlt2 (.int .i64 2)).set (a := ⟨G, 2, none⟩) hlt2 (.slice A3 2 c3))
  have HI3 := Lib.hid (show KC.IsL v3 v3.heap.size (.slice A3 2 c3) [⟨1, 1, 5⟩, ⟨2, 2, -3⟩] by rw [hv]; exact HO.out.isL (by simp))
  have HC3 := Lib.hid (show Cells3 v3 G (.int .i64 2) (.int .i64 2) (.slice A3 2 c3) by rw [hv]; exact HC.out.set _ _ _)
  have HV3 := Lib.hid (show Below w.heap.size w v3 by rw [hv]; exact below_set3 HB.out HL1.out _ _ _)
  clear ho hb HO HC2 HV2 HI2 hlt2 HB
  obtain ⟨a0, a1, a2, z0, z1, z2, _⟩ := HC.out
  obtain ⟨b0, b1, b2, _⟩ := HC3.out
  rw [hv] at b0 b1 b2
  simp only [List.length_cons, List.length_nil, Nat.zero_add, Nat.reduceAdd]
  go_wp2_with fail
  rw [← hv]
  clear hv a0 a1 a2 z0 z1 z2 b0 b1 b2 HC
  have hlt3 : G < v3.heap.size := HC3.out.2.2.2.2.2.2
  refine (H4.out _ _ _ HI3.out).mono ?_
  rintro e w4 ⟨A4, c4, rfl, ho, hb⟩
  have HC := Lib.hid (HC3.out.below hb)
  have HB := Lib.hid (Below.call HV3.out hb)
  obtain ⟨v4, hv⟩ : ∃ v, v = ((w4.setCell ⟨G, 0, none⟩ (.int .i64 2)).setCell ⟨G, 1, none⟩ (.int .i64 3)).setCell ⟨G, 2, none⟩ (.slice A4 2 c4) := ⟨_, rfl⟩
  have HO := Lib.hid (((ho.set (a := ⟨G, 0, none⟩) hlt3 (.int .i64 2)).set (a := ⟨G, 1, none⟩) hlt3 (.int .i64 3)).set (a := ⟨G, 2, none⟩) hlt3 (.slice A4 2 c4))
  have HI4 := Lib.hid (show KC.IsL v4 v4.heap.size (.slice A4 2 c4) [⟨2, 2, -3⟩, ⟨3, 1, 4⟩] by rw [hv]; exact HO.out.isL (by simp))
  have HC4 := Lib.hid (show Cells3 v4 G (.int .i64 2) (.int .i64 3) (.slice A4 2 c4) by rw [hv]; exact HC.out.set _ _ _)
  have HV4 := Lib.hid (show Below w.heap.size w v4 by rw [hv]; exact below_set3 HB.out HL1.out _ _ _)
  clear ho hb HO HC3 HV3 HI3 hlt3 HB
  obtain ⟨a0, a1, a2, z0, z1, z2, _⟩ := HC.out
  obtain ⟨b0, b1, b2, _⟩ := HC4.out
  rw [hv] at b0 b1 b2
  simp only [List.length_cons, List.length_nil, Nat.zero_add, Nat.reduceAdd]
  go_wp2_with fail
  rw [← hv]
  clear hv a0 a1 a2 z0 z1 z2 b0 b1 b2 HC
  obtain ⟨a0, a1, a2, _⟩ := HC4.out
  refine (H5.out _ _ _ HI4.out).mono ?_
  rintro e w5 ⟨A5, c5, rfl, hi5, hb5⟩
  have HS5 := Lib.hid hi5
  have HI5 := Lib.hid (HI4.out.then hb5)
  have HC5 := Lib.hid (HC4.out.below hb5)
  have HV5 := Lib.hid (Below.call HV4.out hb5)
  clear hi5 hb5 HC4 HV4 HI4 a0 a1 a2
  obtain ⟨a0, a1, a2, _⟩ := HC5.out
  simp only [List.length_cons, List.length_nil, Nat.zero_add, Nat.reduceAdd]
  go_wp2_with fail
  refine (H6.out _ _ _ HI5.out).mono ?_
  rintro e w6 ⟨rfl, hb6⟩
  have HS6 := Lib.hid (HS5.out.then hb6)
  have HI6 := Lib.hid (HI5.out.then hb6)
  have HC6 := Lib.hid (HC5.out.below hb6)
  have HV6 := Lib.hid (Below.call HV5.out hb6)
  clear hb6 HC5 HV5 HI5 HS5 a0 a1 a2
  obtain ⟨a0, a1, a2, _⟩ := HC6.out
  go_wp2_with fail
  refine (H7.out _ _ _ HI6.out).mono ?_
  rintro e w7 ⟨rfl, hb7⟩
  have HS7 := Lib.hid (HS6.out.then hb7)
  have HI7 := Lib.hid (HI6.out.then hb7)
  have HC7 := Lib.hid (HC6.out.below hb7)
  have HV7 := Lib.hid (Below.call HV6.out hb7)
  clear hb7 HC6 HV6 HI6 HS6 a0 a1 a2
  obtain ⟨a0, a1, a2, _⟩ := HC7.out
  obtain ⟨b', off, rfl, hb', hbc, hcell⟩ := ch_cells HS7.out (by decide)
  obtain ⟨e1, e2, e3⟩ := hcell 0 (by decide)
  rw [HQ.out] at e1 e2 e3
  simp only [Nat.zero_mul, Nat.add_zero] at e1 e2 e3
  clear hcell HQ
  go_wp2_with fail
  refine (H8.out _ _ _ HI7.out).mono ?_
  rintro e w8 ⟨rfl, hb8⟩
  have HI8 := Lib.hid (HI7.out.then hb8)
  have HC8 := Lib.hid (HC7.out.below hb8)
  have HV8 := Lib.hid (Below.call HV7.out hb8)
  clear hb8 HC7 HV7 HI7 HS7 a0 a1 a2 e1 e2 e3
  obtain ⟨a0, a1, a2, _⟩ := HC8.out
  go_wp2_with fail
  refine (H9.out _ _ _ HI8.out).mono ?_
  rintro e w9 ⟨rfl, hb9⟩
  have HV9 := Lib.hid (Below.call HV8.out hb9)
  clear hb9
  go_wp2
  go_ret
  exact ⟨rt_l _ (by simp), HV9.out⟩
end Go.Proofs.Ytdghekhkjkkgfaa
