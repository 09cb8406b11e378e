/- Texts of numbers read: the program's Parse. -/
import Derived.Test.YtegghoniboebkaaND
namespace Go.Proofs.Ytegghoniboebkaa
open Go.RowKit

/-- Does a text begin with a minus? -/
def mnus (l : List UInt8) : Bool := decide (l.head? = some 45)
/-- Its digits. -/
def dgs (l : List UInt8) : List UInt8 := if mnus l then l.drop 1 else l
/-- The number that a text may stand for. -/
def numOf (l : List UInt8) (m : Nat) : Int := if mnus l then wrap64 (-(wrap64 (m : Int))) else wrap64 (m : Int)
/-- The number of a text, if it is one's text. -/
def prs (l : List UInt8) : Option Int := match rd (dgs l) with
  | none => none
  | some m => if txt (numOf l m) = l then some (numOf l m) else none
def prsV (l : List UInt8) : Int := (prs l).getD 0
def prsE (l : List UInt8) : Int := if (prs l).isSome then 0 else 30

theorem IsT.drop1 {s : ByteArray} {l : List UInt8} (h : IsT s l) : IsT (s.extract 1 l.length) (l.drop 1) := by
  constructor
  rw [h.eq, ByteArray.extract_mk, List.take_of_length_le (by rw [List.length_drop]; omega)]
theorem IsT.list {s : ByteArray} {l : List UInt8} (h : IsT s l) : s.toList = l := by rw [h.eq, ByteArray.toList_mk]
theorem wrap64_in (x : Int) : fits (wrap64 x) := by unfold wrap64; constructor <;> omega
theorem mnus_iff (l : List UInt8) (h : 0 < l.length) : mnus l = decide ((l.getD 0 0).toNat = 45) := by
  match l, h with
  | x :: r, _ =>
    unfold mnus
    have : (x = 45) ↔ x.toNat = 45 := ⟨fun h => by rw [h]; rfl, fun h => UInt8.toNat_inj.1 (by rw [h]; rfl)⟩
    simp [this]

set_option maxHeartbeats 1000000 in
theorem parse_any (s : ByteArray) (l : List UInt8) (hs : IsT s l) (hm : l.length ≤ 9223372036854775807) (w : World) :
    Calls Try.prog 67 #[.string s] w fun e w' => e = .returned (.tuple #[.int .i64 (prsV l), .int .i64 (prsE l)]) ∧ Below w.heap.size w w' := by
  have hsz := hs.size
  have hsl := hs.list
  have HI := Lib.hid hs
  by_cases hmi : mnus l = true
  · have hl0 : 0 < l.length := by
      match l with
      | [] => simp [mnus] at hmi
      | x :: r => simp
    have hix : ∀ w : World, (Instr.index 9 (.string s) (.int .i64 0)).run Try.prog w = .ok (.int .u8 ((l.getD 0 0).toNat : Int)) w := fun w => hs.idx 0 hl0 w
    have hc : (l.getD 0 0).toNat = 45 := by rw [mnus_iff l hl0] at hmi; simpa using hmi
    rw [hc] at hix
    have hds := digitsSize_any (s.extract 1 l.length) (l.drop 1) hs.drop1
    have HD := Lib.hid hds
    have hdg : dgs l = l.drop 1 := by rw [dgs, if_pos hmi]
    have HG := Lib.hid hdg
    have HM := Lib.hid hmi
    clear hs hc hds hdg hmi
    cases hr : rd (l.drop 1) with
    | none =>
      have HR := Lib.hid hr
      have hds := HD.out
      rw [hr] at hds
      have HD2 := Lib.hid hds
      clear HD hr hds
      go_enter Try.func67, Try.ntmps67
      go_wp2_with (go_at_call 74; refine (HD2.out _).mono ?_; rintro e w' ⟨rfl, rfl⟩)
      have e : prs l = none := by
        unfold prs
        rw [HG.out, HR.out]
      go_ret2
      exact ⟨ret_ii (by rw [prsV, e]; rfl) (by rw [prsE, e]; rfl), Below.refl _ _⟩
    | some m =>
      have HR := Lib.hid hr
      have hds := HD.out
      rw [hr] at hds
      have HD2 := Lib.hid hds
      clear HD hr hds
      have hpn : ∀ n : Int, n = numOf l m → txt n = l → prsV l = n ∧ prsE l = 0 := fun n hn ht => by
        have e : prs l = some n := by
          unfold prs
          rw [HG.out, HR.out]
          simp only []
          rw [← hn, if_pos ht]
        rw [prsV, prsE, e]
        exact ⟨rfl, rfl⟩
      have hpx : ∀ n : Int, n = numOf l m → txt n ≠ l → prsV l = 0 ∧ prsE l = 30 := fun n hn ht => by
        have e : prs l = none := by
          unfold prs
          rw [HG.out, HR.out]
          simp only []
          rw [← hn, if_neg ht]
        rw [prsV, prsE, e]
        exact ⟨rfl, rfl⟩
      go_enter Try.func67, Try.ntmps67
      go_wp2_with (go_at_call 74; refine (HD2.out _).mono ?_; rintro e w' ⟨rfl, rfl⟩)
      have hfn : fits (wrap64 (-wrap64 (m : Int))) := wrap64_in _
      have hnn : wrap64 (-wrap64 (m : Int)) = numOf l m := by rw [numOf]; simp [HM.out]
      generalize wrap64 (-wrap64 (m : Int)) = N at *
      refine (text_any N hfn _).mono ?_
      rintro e w' ⟨rfl, hbel⟩
      have HB := Lib.hid hbel
      clear hbel
      by_cases ht : txt N = l
      · have hb : (txt N == l) = true := by rw [beq_iff_eq]; exact ht
        have HT := Lib.hid (hpn N hnn ht)
        clear ht hpn hpx hnn
        go_wp2
        go_ret2
        exact ⟨ret_ii HT.out.1.symm HT.out.2.symm, HB.out⟩
      · have hb : (txt N == l) = false := by rw [beq_eq_false_iff_ne]; exact ht
        have HT := Lib.hid (hpx N hnn ht)
        clear ht hpn hpx hnn
        go_wp2
        go_ret2
        exact ⟨ret_ii HT.out.1.symm HT.out.2.symm, HB.out⟩
  · have hmf : mnus l = false := by simpa using hmi
    have hds := digitsSize_any s l hs
    have HD := Lib.hid hds
    have hdg : dgs l = l := by rw [dgs, if_neg hmi]
    have HG := Lib.hid hdg
    have HM := Lib.hid hmf
    have hix : 0 < l.length → ∀ w : World, (Instr.index 9 (.string s) (.int .i64 0)).run Try.prog w = .ok (.int .u8 ((l.getD 0 0).toNat : Int)) w := fun hl0 w => hs.idx 0 hl0 w
    have hne : 0 < l.length → (((l.getD 0 0).toNat : Int) == 45) = false := fun hl0 => by
      rw [mnus_iff l hl0] at hmf
      rw [beq_eq_false_iff_ne]
      simp at hmf
      simp only [List.getD_eq_getElem?_getD, ne_eq]
      omega
    have HX := Lib.hid hix
    have HN := Lib.hid hne
    clear hs hds hdg hmi hmf hix hne
    cases hr : rd l with
    | none =>
      have HR := Lib.hid hr
      have hds := HD.out
      rw [hr] at hds
      have HD2 := Lib.hid hds
      clear HD hr hds
      have e : prs l = none := by
        unfold prs
        rw [HG.out, HR.out]
      by_cases hl0 : 0 < l.length
      · have hix := HX.out hl0
        have hne := HN.out hl0
        generalize (l.getD 0 0).toNat = c at *
        go_enter Try.func67, Try.ntmps67
        go_wp2_with (go_at_call 74; refine (HD2.out _).mono ?_; rintro e w' ⟨rfl, rfl⟩)
        go_ret2
        exact ⟨ret_ii (by rw [prsV, e]; rfl) (by rw [prsE, e]; rfl), Below.refl _ _⟩
      · have hsz0 : l.length = 0 := by omega
        rw [hsz0] at hsz
        go_enter Try.func67, Try.ntmps67
        go_wp2_with (go_at_call 74; refine (HD2.out _).mono ?_; rintro e w' ⟨rfl, rfl⟩)
        go_ret2
        exact ⟨ret_ii (by rw [prsV, e]; rfl) (by rw [prsE, e]; rfl), Below.refl _ _⟩
    | some m =>
      have hl0 : 0 < l.length := by
        unfold rd at hr
        split at hr
        · omega
        · cases hr
      have HR := Lib.hid hr
      have hds := HD.out
      rw [hr] at hds
      have HD2 := Lib.hid hds
      clear HD hr hds
      have hpn : ∀ n : Int, n = numOf l m → txt n = l → prsV l = n ∧ prsE l = 0 := fun n hn ht => by
        have e : prs l = some n := by
          unfold prs
          rw [HG.out, HR.out]
          simp only []
          rw [← hn, if_pos ht]
        rw [prsV, prsE, e]
        exact ⟨rfl, rfl⟩
      have hpx : ∀ n : Int, n = numOf l m → txt n ≠ l → prsV l = 0 ∧ prsE l = 30 := fun n hn ht => by
        have e : prs l = none := by
          unfold prs
          rw [HG.out, HR.out]
          simp only []
          rw [← hn, if_neg ht]
        rw [prsV, prsE, e]
        exact ⟨rfl, rfl⟩
      have hix := HX.out hl0
      have hne := HN.out hl0
      generalize (l.getD 0 0).toNat = c at *
      go_enter Try.func67, Try.ntmps67
      go_wp2_with (go_at_call 74; refine (HD2.out _).mono ?_; rintro e w' ⟨rfl, rfl⟩)
      have hfn : fits (wrap64 (m : Int)) := wrap64_in _
      have hnn : wrap64 (m : Int) = numOf l m := by rw [numOf]; simp [HM.out]
      generalize wrap64 (m : Int) = N at *
      refine (text_any N hfn _).mono ?_
      rintro e w' ⟨rfl, hbel⟩
      have HB := Lib.hid hbel
      clear hbel
      by_cases ht : txt N = l
      · have hb : (txt N == l) = true := by rw [beq_iff_eq]; exact ht
        have HT := Lib.hid (hpn N hnn ht)
        clear ht hpn hpx hnn
        go_wp2
        go_ret2
        exact ⟨ret_ii HT.out.1.symm HT.out.2.symm, HB.out⟩
      · have hb : (txt N == l) = false := by rw [beq_eq_false_iff_ne]; exact ht
        have HT := Lib.hid (hpx N hnn ht)
        clear ht hpn hpx hnn
        go_wp2
        go_ret2
        exact ⟨ret_ii HT.out.1.symm HT.out.2.symm, HB.out⟩
end Go.Proofs.Ytegghoniboebkaa
