/- The law on lists. -/
import Derived.Test.YtchnljdijmgnfaaWV
namespace Go.Proofs.Ytchnljdijmgnfaa
open Go.RowKit
theorem refGo_len (ps : List (List UInt8)) : ∀ (i : Nat) (m : List (Int × Int)), m.length ≤ 384 → (refGo ps i m).1.length ≤ 384 := by
  induction ps with
  | nil => intro i m h; exact h
  | cons p ps ih =>
    intro i m h
    rw [refGo]
    cases endsL p with
    | none => simp
    | some ft =>
      obtain ⟨f, t⟩ := ft
      simp only
      split
      · simp
      · exact ih _ _ (by omega)
theorem listV_len (l : List UInt8) : (listV l).1.length ≤ 384 := by
  by_cases h : l = []
  · subst h; simp [listV]
  · rw [listV_ref l h]
    exact refGo_len _ _ _ (by simp)
set_option maxRecDepth 100000 in
set_option maxHeartbeats 4000000 in
theorem wellLists_walk (s : ByteArray) (l : List UInt8) (hs : IsT s l) (hsz : l.length ≤ 9223372036854775807) (w : World) : Calls Try.prog 7 #[.string s] w fun e w' => e = .returned (.bool true) ∧ Below w.heap.size w w' := by
  have hz := hs.size
  by_cases hbig : l.length ≤ 2000
  · have HP := Lib.hid (list_any s l hs (by omega))
    have HQ := Lib.hid (rlist_any s l hs (by omega))
    have HLN := Lib.hid (listV_len l)
    obtain ⟨r, E, a, hr⟩ : ∃ r E a, listV l = (r, E, a) := ⟨_, _, _, rfl⟩
    rw [hr] at HP HQ HLN
    unfold ListR at HP HQ
    simp only at HP HQ HLN
    have hd : decide ((2000 : Int) < (l.length : Int)) = false := by (rw [decide_eq_false_iff_not]; omega)
    have hl2 : (l.length : Int) ≤ 2000 := by omega
    obtain rfl := hs.eq
    clear hs hr
    go_enter Try.func7, Try.ntmps7
    go_wp2_with fail
    refine (HP.out _).mono ?_
    rintro e w1 ⟨v1, rfl, hown1, hb1⟩
    have HL1 := Lib.hid (hown1.isL (by have := HLN.out; omega))
    have HB1 := Lib.hid hb1
    clear hown1 hb1
    simp only
    go_wp2_with fail
    refine (HQ.out _).mono ?_
    rintro e w2 ⟨v2, rfl, hown2, hb2⟩
    have HL2 := Lib.hid (hown2.isL (by have := HLN.out; omega))
    have HL1' := Lib.hid (HL1.out.then hb2)
    have HB2 := Lib.hid (Below.call HB1.out hb2)
    clear hown2 hb2
    simp only
    go_wp2_with fail
    refine (lives6_any _).mono ?_
    rintro e w3 ⟨rfl, hb3⟩
    have HL1'' := Lib.hid (HL1'.out.then hb3)
    have HL2' := Lib.hid (HL2.out.then hb3)
    have HB3 := Lib.hid (Below.call HB2.out hb3)
    clear hb3
    go_wp2_with fail
    refine (psame_self v1 v2 r w3 HL1''.out HL2'.out).mono ?_
    rintro e w4 ⟨rfl, hb4⟩
    have HB4 := Lib.hid (Below.call HB3.out hb4)
    clear hb4
    go_wp2
    go_ret
    exact ⟨ret_b rfl, HB4.out⟩
  · have hd : decide ((2000 : Int) < (l.length : Int)) = true := by (rw [decide_eq_true_eq]; omega)
    have hl2 : (2001 : Int) ≤ (l.length : Int) := by omega
    obtain rfl := hs.eq
    clear hs
    go_enter Try.func7, Try.ntmps7
    go_wp2_with fail
    refine (lives6_any _).mono ?_
    rintro e w2 ⟨rfl, hb2⟩
    have HB2 := Lib.hid hb2
    clear hb2
    go_wp2
    go_ret
    exact ⟨ret_b rfl, HB2.out⟩
end Go.Proofs.Ytchnljdijmgnfaa
