/- The places that a text names. -/
import Derived.Test.YtchnljdijmgnfaaWF
import Derived.Test.YtchnljdijmgnfaaWG
import Derived.Test.YtchnljdijmgnfaaWM
namespace Go.Proofs.Ytchnljdijmgnfaa
open Go.RowKit
theorem parse_right (l : List UInt8) (p : Int × Int) (h : parseL l = some p) : 0 ≤ p.1 ∧ p.1 ≤ 31 ∧ 0 ≤ p.2 ∧ p.2 ≤ 47 := by
  unfold parseL at h
  cases hp : prs (l.drop (rowK l)) with
  | none => rw [hp] at h; cases h
  | some n =>
    rw [hp] at h
    simp only at h
    split at h
    · rename_i hr
      injection h with h
      subst h
      exact (right_iff _).1 hr
    · cases h
theorem ends_right (l : List UInt8) (f t : Int × Int) (h : endsL l = some (f, t)) : 0 ≤ f.1 ∧ f.1 ≤ t.1 ∧ t.1 ≤ 31 ∧ 0 ≤ f.2 ∧ f.2 ≤ t.2 ∧ t.2 ≤ 47 := by
  unfold endsL at h
  cases ha : parseL (cutA l 58) with
  | none => rw [ha] at h; cases h
  | some a =>
    rw [ha] at h
    simp only at h
    cases hb : parseL (lastL l) with
    | none => rw [hb] at h; cases h
    | some b =>
      rw [hb] at h
      simp only [Option.some.injEq, Prod.mk.injEq] at h
      have r1 := parse_right _ _ ha
      have r2 := parse_right _ _ hb
      obtain ⟨rfl, rfl⟩ := h
      simp only
      omega
/-- The walk over the pieces. -/
def listGo : Nat → List UInt8 → Nat → List (Int × Int) → List (Int × Int) × Int × Int
  | 0, _, _, _ => ([], 0, 0)
  | k + 1, l, i, m => match endsL (cutA l 44) with
    | none => ([], 60, (i : Int))
    | some (f, t) => if 384 < (m.length : Int) + (t.1 - f.1 + 1) * (t.2 - f.2 + 1) then ([], 2, (i : Int))
      else if cutF l 44 = true then listGo k (cutB l 44) (i + 1) (m ++ rect f t) else (m ++ rect f t, 0, 0)
def listV (l : List UInt8) : List (Int × Int) × Int × Int := if l = [] then ([], 0, 0) else listGo (l.length + 1) l 0 []
theorem cutB_lt (l : List UInt8) (c : UInt8) (h : cutF l c = true) : (cutB l c).length + 1 ≤ l.length := by
  rcases idx_spec l c with ⟨_, k, _, _⟩ | ⟨p, hp, _, _, _, k⟩
  · rw [k] at h; cases h
  · rw [k, List.length_drop]; omega
theorem listGo_fuel (k k' : Nat) : ∀ (l : List UInt8) (i : Nat) (m : List (Int × Int)), l.length + 1 ≤ k → l.length + 1 ≤ k' → listGo k l i m = listGo k' l i m := by
  induction k generalizing k' with
  | zero => intro l i m h; omega
  | succ k ih =>
    intro l i m h h'
    cases k' with
    | zero => omega
    | succ k' =>
      rw [listGo, listGo]
      cases endsL (cutA l 44) with
      | none => rfl
      | some ft =>
        obtain ⟨f, t⟩ := ft
        simp only
        split
        · rfl
        · split
          · rename_i hc
            have := cutB_lt l 44 hc
            exact ih _ _ _ _ (by omega) (by omega)
          · rfl
theorem rect_len (f t : Int × Int) (h1 : f.1 ≤ t.1) (h2 : f.2 ≤ t.2) : ((rect f t).length : Int) = (t.1 - f.1 + 1) * (t.2 - f.2 + 1) := by
  rw [rect, rectR_len, Int.natCast_mul, Int.toNat_of_nonneg (by omega), Int.toNat_of_nonneg (by omega)]
def lenS : Value → Nat
  | .string t => t.size
  | _ => 0
def isOn : Value → Nat
  | .bool true => 1
  | _ => 0
def ListR (w : World) (r : List (Int × Int) × Int × Int) (e : Ending) (w' : World) : Prop := ∃ v', e = .returned (.tuple #[v', .int .i64 r.2.1, .int .i64 r.2.2]) ∧ Pl.Own w' w.heap.size v' r.1 ∧ Below w.heap.size w w'
theorem area_le (a b c d : Int) (h1 : 0 ≤ a) (h2 : a ≤ c) (h3 : c ≤ 31) (h4 : 0 ≤ b) (h5 : b ≤ d) (h6 : d ≤ 47) : 1 ≤ (c - a + 1) * (d - b + 1) ∧ (c - a + 1) * (d - b + 1) ≤ 1536 := by
  constructor
  · have := Int.mul_le_mul (a := 1) (b := 1) (c := c - a + 1) (d := d - b + 1) (by omega) (by omega) (by omega) (by omega); omega
  · have := Int.mul_le_mul (a := c - a + 1) (b := d - b + 1) (c := 32) (d := 48) (by omega) (by omega) (by omega) (by omega); omega
set_option maxRecDepth 100000 in
set_option maxHeartbeats 4000000 in
theorem list_any (s : ByteArray) (l : List UInt8) (hs : IsT s l) (hsz : l.length ≤ 4611686018427387904) (w : World) : Calls Try.prog 33 #[.string s] w (ListR w (listV l)) := by
  obtain rfl : s = ⟨l.toArray⟩ := by
    obtain ⟨h⟩ := hs
    exact h
  clear hs
  cases l with
  | nil =>
    go_enter Try.func33, Try.ntmps33
    go_wp2
    refine bodyPost_ret (v := .tuple #[.slice none 0 0, .int .i64 0, .int .i64 0]) (by simp [results, Try.results33, go_sem]) rfl ?_
    exact ⟨_, rfl, Pl.Own.nil _ _, Below.refl _ _⟩
  | cons x xs =>
    have hne : (x :: xs).isEmpty = false := rfl
    obtain ⟨R, hR⟩ : ∃ R, R = listV (x :: xs) := ⟨_, rfl⟩
    have HR := Lib.hid hR
    rw [← hR]
    have HSZ := Lib.hid hsz
    obtain ⟨L, hL⟩ : ∃ L, L = x :: xs := ⟨_, rfl⟩
    have HL := Lib.hid hL
    rw [← hL] at hne ⊢
    clear hR hsz hL
    go_enter Try.func33, Try.ntmps33
    go_wp2
    go_loopw [0, 5, 6, 7] (fun sv v iv bv wr => ∃ (l' : List UInt8) (m : List (Int × Int)) (j : Nat) (bo : Bool), sv = .string ⟨l'.toArray⟩ ∧ iv = .int .i64 (j : Int) ∧ bv = .bool bo ∧ j + l'.length ≤ L.length + 1 ∧ j ≤ L.length + 1 ∧ (bo = true → j + l'.length ≤ L.length ∧ listGo (l'.length + 1) l' j m = R) ∧ (bo = false → R = (m, 0, 0)) ∧ m.length ≤ 384 ∧ Pl.Own wr w.heap.size v m ∧ Below w.heap.size w wr) (fun sv _ _ bv _ => lenS sv + isOn bv)
    case atStart => exact ⟨L, [], 0, true, rfl, rfl, rfl, by omega, by omega, fun _ => ⟨by omega, by rw [HR.out, listV, ← HL.out]; rw [if_neg (by rw [HL.out]; simp)]⟩, (fun h => by cases h), by simp, Pl.Own.nil _ _, Below.refl _ _⟩
    case round =>
      obtain ⟨l', m, j, bo, rfl, rfl, rfl, hj1, hj2, hgo, hst, hm, hown, hbel⟩ := hrel
      cases bo with
      | false =>
        have HST := Lib.hid (hst rfl)
        clear hst hgo
        have HO := Lib.hid hown
        clear hown
        have HBL := Lib.hid hbel
        clear hbel
        go_wp2
        refine bodyPost_ret (v := .tuple #[u5, .int .i64 0, .int .i64 0]) (by simp [results, Try.results33, go_sem]) rfl ?_
        rw [HST.out]
        exact ⟨_, rfl, HO.out, HBL.out⟩
      | true =>
        have HGO := Lib.hid (hgo rfl)
        clear hst hgo
        have hlm : m.length ≤ 9223372036854775807 := by omega
        obtain ⟨⟨A, cap, rfl, hcap, _⟩, _, _⟩ := hown.isL hlm
        have HO := Lib.hid hown
        have HBL := Lib.hid hbel
        have HM := Lib.hid hm
        have HJ := Lib.hid hj1
        have hjb : (j : Int) ≤ 4611686018427387904 := by have := HSZ.out; rw [← HL.out] at this; have := HGO.out.1; omega
        clear hown hbel hm hj1 hj2
        have HL' := Lib.hid (show l'.length ≤ 4611686018427387904 by have := HSZ.out; rw [← HL.out] at this; have := HGO.out.1; omega)
        have HC := Lib.hid (cut1_any ⟨l'.toArray⟩ l' ⟨rfl⟩ (by have := HL'.out; omega) 44)
        have HE := Lib.hid (ends_any ⟨(cutA l' 44).toArray⟩ (cutA l' 44) ⟨rfl⟩ (by have := HL'.out; have := cutA_len l' 44; omega))
        cases hen : endsL (cutA l' 44) with
        | none =>
          have e1 : endsV (cutA l' 44) = ((0, 0), (0, 0)) := by rw [endsV, hen]; rfl
          have e2 : endsE (cutA l' 44) = 60 := by rw [endsE, hen]; rfl
          have e3 : R = ([], 60, (j : Int)) := by rw [← HGO.out.2, listGo, hen]
          have E3 := Lib.hid e3
          rw [e1, e2] at HE
          clear e1 e2 e3
          simp only at HE
          go_wp2_with fail
          refine (HC.out _).mono ?_
          rintro e w1 ⟨rfl, hb1⟩
          obtain ⟨hc1, hf1⟩ := bcell hb1
          have HB1 := Lib.hid hb1
          clear hb1
          go_wp2_with fail
          refine (HE.out _).mono ?_
          rintro e w2 ⟨rfl, hb2⟩
          obtain ⟨hc2, hf2⟩ := bcell hb2
          have HB2 := Lib.hid hb2
          clear hb2
          go_wp2
          refine bodyPost_ret (v := .tuple #[.slice none 0 0, .int .i64 60, .int .i64 (j : Int)]) (by simp [results, Try.results33, go_sem]) rfl ?_
          rw [E3.out]
          refine ⟨_, rfl, Pl.Own.nil _ _, ?_⟩
          (repeat (first | exact HBL.out | (with_reducible refine Below.st ?_ (by simp <;> omega)) | (with_reducible refine Below.al ?_ _) | (with_reducible refine Below.call ?_ HB1.out) | (with_reducible refine Below.call ?_ HB2.out)))
        | some ft =>
          obtain ⟨⟨f1, f2⟩, ⟨t1, t2⟩⟩ := ft
          have hb := ends_right _ _ _ hen
          simp only at hb
          obtain ⟨b1, b2, b3, b4, b5, b6⟩ := hb
          have hA := area_le f1 f2 t1 t2 b1 b2 b3 b4 b5 b6
          obtain ⟨a1, a2⟩ := hA
          have e1 : endsV (cutA l' 44) = ((f1, f2), (t1, t2)) := by rw [endsV, hen]; rfl
          have e2 : endsE (cutA l' 44) = 0 := by rw [endsE, hen]; rfl
          rw [e1, e2] at HE
          clear e1 e2
          simp only at HE
          have HG := HGO.out.2
          rw [listGo, hen] at HG
          simp only at HG
          have HJ2 := Lib.hid HGO.out.1
          clear HGO
          have hml : ((m.length : Nat) : Int) ≤ 384 := by have := HM.out; omega
          by_cases hgt : 384 < (m.length : Int) + (t1 - f1 + 1) * (t2 - f2 + 1)
          · rw [if_pos hgt] at HG
            have HG' := Lib.hid HG.symm
            clear HG
            go_wp2_with fail
            refine (HC.out _).mono ?_
            rintro e w1 ⟨rfl, hb1⟩
            obtain ⟨hc1, hf1⟩ := bcell hb1
            have HB1 := Lib.hid hb1
            clear hb1
            go_wp2_with fail
            refine (HE.out _).mono ?_
            rintro e w2 ⟨rfl, hb2⟩
            obtain ⟨hc2, hf2⟩ := bcell hb2
            have HB2 := Lib.hid hb2
            clear hb2
            have hd : decide (384 < (m.length : Int) + (t1 - f1 + 1) * (t2 - f2 + 1)) = true := decide_eq_true hgt
            go_wp2
            refine bodyPost_ret (v := .tuple #[.slice none 0 0, .int .i64 2, .int .i64 (j : Int)]) (by simp [results, Try.results33, go_sem]) rfl ?_
            rw [HG'.out]
            refine ⟨_, rfl, Pl.Own.nil _ _, ?_⟩
            (repeat (first | exact HBL.out | (with_reducible refine Below.st ?_ (by simp <;> omega)) | (with_reducible refine Below.al ?_ _) | (with_reducible refine Below.call ?_ HB1.out) | (with_reducible refine Below.call ?_ HB2.out)))
          · rw [if_neg hgt] at HG
            have HG' := Lib.hid HG
            have HFA := Lib.hid hgt
            have hd : decide (384 < (m.length : Int) + (t1 - f1 + 1) * (t2 - f2 + 1)) = false := decide_eq_false hgt
            clear HG hgt
            go_wp2_with fail
            refine (HC.out _).mono ?_
            rintro e w1 ⟨rfl, hb1⟩
            obtain ⟨hc1, hf1⟩ := bcell hb1
            have HB1 := Lib.hid hb1
            clear hb1
            go_wp2_with fail
            refine (HE.out _).mono ?_
            rintro e w2 ⟨rfl, hb2⟩
            obtain ⟨hc2, hf2⟩ := bcell hb2
            have HB2 := Lib.hid hb2
            clear hb2
            have HX := Lib.hid (appendAll_any (.slice A m.length cap) w.heap.size m (f1, f2) (t1, t2))
            simp only at HX
            have HO2 := Lib.hid (HO.out.below HB1.out)
            have HO3 := Lib.hid ((HO2.out.below HB2.out).alloc (.cells #[.int .i64 f1, .int .i64 f2] 38) |>.alloc (.cells #[.int .i64 t1, .int .i64 t2] 38))
            have HBW : Hid (Below w.heap.size w ((w2.alloc (.cells #[.int .i64 f1, .int .i64 f2] 38)).alloc (.cells #[.int .i64 t1, .int .i64 t2] 38))) := Lib.hid (by
              (repeat (first | exact HBL.out | (with_reducible refine Below.st ?_ (by simp <;> omega)) | (with_reducible refine Below.al ?_ _) | (with_reducible refine Below.call ?_ HB1.out) | (with_reducible refine Below.call ?_ HB2.out))))
            clear HO HO2 HBL HB1 HB2
            go_wp2_with fail
            refine (HX.out _ HO3.out HBW.out.size (by have := HM.out; omega) b1 b2 b3 b4 b5 b6).mono ?_
            rintro e w3 ⟨v3, rfl, hown3, hbel3⟩
            have HO4 := Lib.hid hown3
            have HB4 := Lib.hid (HBW.out.trans hbel3)
            clear hown3 hbel3
            cases hcf : cutF l' 44
            · rw [hcf] at HG'
              go_wp2
              go_roundw
              case rel => exact ⟨cutB l' 44, m ++ rect (f1, f2) (t1, t2), j + 1, false, rfl, num_i (by omega), rfl, by have := HJ2.out; have := cutB_len l' 44; omega, by have := HJ2.out; omega, (fun h => by cases h), (fun _ => by simpa using HG'.out.symm), by (have := HFA.out; have q := rect_len (f1, f2) (t1, t2) b2 b5; simp only at q; rw [List.length_append]; omega), HO4.out, HB4.out⟩
              case measure => simp [lenS, isOn, ByteArray.size]; have := cutB_len l' 44; omega
            · rw [hcf] at HG'
              go_wp2
              go_roundw
              case rel => exact ⟨cutB l' 44, m ++ rect (f1, f2) (t1, t2), j + 1, true, rfl, num_i (by omega), rfl, by have := HJ2.out; have := cutB_lt l' 44 hcf; omega, by have := HJ2.out; omega, (fun _ => ⟨by have := HJ2.out; have := cutB_lt l' 44 hcf; omega, by have q := HG'.out; simp only [if_true] at q; refine Eq.trans ?_ q; exact listGo_fuel _ _ _ _ _ (Nat.le_refl _) (by have := cutB_lt l' 44 hcf; omega)⟩), (fun h => by cases h), by (have := HFA.out; have q := rect_len (f1, f2) (t1, t2) b2 b5; simp only at q; rw [List.length_append]; omega), HO4.out, HB4.out⟩
              case measure => simp [lenS, isOn, ByteArray.size]; have := cutB_lt l' 44 hcf; omega
end Go.Proofs.Ytchnljdijmgnfaa
