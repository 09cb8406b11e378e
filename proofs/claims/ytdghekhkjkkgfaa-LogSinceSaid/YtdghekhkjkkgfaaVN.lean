/- What any log tells of what came since any version; what the well held; what an arm did: the walk. -/
import Derived.Test.YtdghekhkjkkgfaaVM
import Derived.Test.YtdghekhkjkkgfaaVI
namespace Go.Proofs.Ytdghekhkjkkgfaa
open Go.RowKit

def snR (r l : Int) (xs : List Ch) (v : Int) : List Ch := if snE r l xs v = 0 then snL l xs v else []
theorem since_all (r l : Int) (A : Option Addr) (c : Nat) (xs : List Ch) (v : Int) (w : World) (hv : KC.IsL w w.heap.size (.slice A xs.length c) xs) : Calls Try.prog 16 #[lgV r l A xs.length c, .int .i64 v] w fun e w' =>
    ∃ A' c', e = .returned (.tuple #[.slice A' (snR r l xs v).length c', .int .i64 (snE r l xs v)]) ∧ KC.IsL w' w'.heap.size (.slice A' (snR r l xs v).length c') (snR r l xs v) ∧ Below w.heap.size w w' := by
  unfold snR
  by_cases h : snE r l xs v = 0
  · rw [if_pos h, h]
    exact since_ok r l A c xs v h w hv
  · rw [if_neg h]
    refine (since_bad r l A c xs v h w hv).mono ?_
    rintro e w' ⟨rfl, hb⟩
    exact ⟨none, 0, rfl, Lk.IsL.nil _ _ _ _, hb⟩
theorem rsince_all (r l : Int) (A : Option Addr) (c : Nat) (xs : List Ch) (v : Int) (w : World) (hv : KC.IsL w w.heap.size (.slice A xs.length c) xs) : Calls Try.prog 17 #[lgV r l A xs.length c, .int .i64 v] w fun e w' =>
    ∃ A' c', e = .returned (.tuple #[.slice A' (snR r l xs v).length c', .int .i64 (snE r l xs v)]) ∧ KC.IsL w' w'.heap.size (.slice A' (snR r l xs v).length c') (snR r l xs v) ∧ Below w.heap.size w w' := by
  unfold snR
  by_cases h : snE r l xs v = 0
  · rw [if_pos h, h]
    exact rsince_ok r l A c xs v h w hv
  · rw [if_neg h]
    refine (rsince_bad r l A c xs v h w hv).mono ?_
    rintro e w' ⟨rfl, hb⟩
    exact ⟨none, 0, rfl, Lk.IsL.nil _ _ _ _, hb⟩

set_option maxRecDepth 100000 in
set_option maxHeartbeats 2000000 in
theorem logSince_walk (r l : Int) (A : Option Addr) (c : Nat) (xs : List Ch) (o v y : Int) (ho : fits o) (w : World) (hv : KC.IsL w w.heap.size (.slice A xs.length c) xs) : Calls Try.prog 4 #[lgV r l A xs.length c, .int .i64 o, .int .i64 v, .int .i64 y] w fun e w' => e = .returned (.bool true) ∧ Below w.heap.size w w' := by
  have H16 := Lib.hid (fun w h => since_all r l A c xs v w h)
  have H17 := Lib.hid (fun w h => rsince_all r l A c xs v w h)
  have H18 := Lib.hid (fun w h => at_any r l A c xs o v ho w h)
  have H19 := Lib.hid (fun w h => rat_any r l A c xs o v ho w h)
  have H21 := Lib.hid (fun w h => net_any r l A c xs y w h)
  have H22 := Lib.hid (fun w h => rnet_any r l A c xs y w h)
  have HLV := Lib.hid (fun w => lives11_any w)
  generalize snR r l xs v = zs at *
  generalize snE r l xs v = z at *
  generalize atV r l xs o v = p at *
  generalize atE r l xs o v = q at *
  generalize netV r l xs y = n0 at *
  obtain ⟨w0, hw0⟩ : ∃ w0, w0 = w.alloc (.cells #[.int .i64 r, .int .i64 l, .slice A xs.length c] 24) := ⟨_, rfl⟩
  have HB0 := Lib.hid (show Below w.heap.size w w0 by rw [hw0]; exact Below.al (Below.refl _ _) _)
  have HC0 := Lib.hid (show Cells3 w0 w.heap.size (.int .i64 r) (.int .i64 l) (.slice A xs.length c) by rw [hw0]; exact Cells3.new w _ _ _ _)
  have HV0 := Lib.hid (hv.then HB0.out)
  clear hv ho
  by_cases hbig : 200 < xs.length
  · go_enter Try.func4, Try.ntmps4
    go_wp2_with fail
    rw [← hw0]
    clear hw0
    refine (HLV.out _).mono ?_
    rintro e w1 ⟨rfl, hb1⟩
    have HB1 := Lib.hid (Below.call HB0.out hb1)
    clear hb1
    go_wp2
    go_ret
    exact ⟨rfl, HB1.out⟩
  · go_enter Try.func4, Try.ntmps4
    go_wp2_with fail
    rw [← hw0]
    clear hw0
    obtain ⟨G, hG⟩ : ∃ G, w.heap.size = G := ⟨_, rfl⟩
    rw [hG] at HC0
    simp only [hG]
    refine (H16.out _ HV0.out).mono ?_
    rintro e w1 ⟨A1, c1, rfl, hi, hb1⟩
    have HB1 := Lib.hid (Below.call HB0.out hb1)
    have HC1 := Lib.hid (HC0.out.below hb1)
    have HV1 := Lib.hid (HV0.out.then hb1)
    have HS1 := Lib.hid hi
    clear hi
    clear hb1 HB0 HC0 HV0
    obtain ⟨a0, a1, a2, _⟩ := HC1.out
    go_wp2_with fail
    clear a0 a1 a2
    refine (H17.out _ HV1.out).mono ?_
    rintro e w2 ⟨A2, c2, rfl, hi, hb2⟩
    have HB2 := Lib.hid (Below.call HB1.out hb2)
    have HC2 := Lib.hid (HC1.out.below hb2)
    have HV2 := Lib.hid (HV1.out.then hb2)
    have HS2 := Lib.hid (HS1.out.then hb2)
    have HT2 := Lib.hid hi
    clear hi HS1
    clear hb2 HB1 HC1 HV1
    obtain ⟨a0, a1, a2, _⟩ := HC2.out
    go_wp2_with fail
    clear a0 a1 a2
    refine (H18.out _ HV2.out).mono ?_
    rintro e w3 ⟨rfl, hb3⟩
    have HB3 := Lib.hid (Below.call HB2.out hb3)
    have HC3 := Lib.hid (HC2.out.below hb3)
    have HV3 := Lib.hid (HV2.out.then hb3)
    have HS3 := Lib.hid (HS2.out.then hb3)
    have HT3 := Lib.hid (HT2.out.then hb3)
    clear HS2 HT2
    clear hb3 HB2 HC2 HV2
    obtain ⟨a0, a1, a2, _⟩ := HC3.out
    go_wp2_with fail
    clear a0 a1 a2
    refine (H19.out _ HV3.out).mono ?_
    rintro e w4 ⟨rfl, hb4⟩
    have HB4 := Lib.hid (Below.call HB3.out hb4)
    have HC4 := Lib.hid (HC3.out.below hb4)
    have HV4 := Lib.hid (HV3.out.then hb4)
    have HS4 := Lib.hid (HS3.out.then hb4)
    have HT4 := Lib.hid (HT3.out.then hb4)
    clear HS3 HT3
    clear hb4 HB3 HC3 HV3
    obtain ⟨a0, a1, a2, _⟩ := HC4.out
    go_wp2_with fail
    have H20 := Lib.hid (fun w h1 h2 => sameList_any A1 A2 c1 c2 zs w h1 h2)
    go_region_held3 (fun w' => w'.cell? ⟨G, 0, none⟩ = some (.int .i64 r) ∧ w'.cell? ⟨G, 1, none⟩ = some (.int .i64 l) ∧ w'.cell? ⟨G, 2, none⟩ = some (.slice A xs.length c) ∧ Below w4.heap.size w4 w')
      (first | exact ⟨a0, a1, a2, (Below.refl _ _).drew⟩ | assumption | go_keep | (go_split_ands; exact ⟨keep_cell hbc (by assumption), keep_cell hbc (by assumption), keep_cell hbc (by assumption), Below.call (by assumption) hbc⟩))
      (first
        | (go_at_call 9; ((with_reducible refine (HLV.out _).mono ?_); rintro e w9 ⟨rfl, hbc⟩))
        | (go_at_call 20; ((with_reducible refine (H20.out _ (HS4.out.then (by go_split_ands; assumption)) (HT4.out.then (by go_split_ands; assumption))).mono ?_); rintro e w9 ⟨rfl, hbc⟩))
        | (go_at_call 21; ((with_reducible refine (H21.out _ (HV4.out.then (by go_split_ands; assumption))).mono ?_); rintro e w9 ⟨rfl, hbc⟩))
        | (go_at_call 22; ((with_reducible refine (H22.out _ (HV4.out.then (by go_split_ands; assumption))).mono ?_); rintro e w9 ⟨rfl, hbc⟩)))
    all_goals
      go_wp2
      go_ret
      exact ⟨rt_l _ (by simp), Below.call HB4.out (by go_split_ands; assumption)⟩
end Go.Proofs.Ytdghekhkjkkgfaa
