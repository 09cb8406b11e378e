/- The reference's name of a place. -/
import Derived.Test.YtegghoniboebkaaWB
namespace Go.Proofs.Ytegghoniboebkaa
open Go.RowKit
theorem abc (k : Nat) (h : k < 26) : (⟨#[65, 66, 67, 68, 69, 70, 71, 72, 73, 74, 75, 76, 77, 78, 79, 80, 81, 82, 83, 84, 85, 86, 87, 88, 89, 90]⟩ : ByteArray).extract k (k + 1) = ⟨[ltr k].toArray⟩ := by
  have : k = 0 ∨ k = 1 ∨ k = 2 ∨ k = 3 ∨ k = 4 ∨ k = 5 ∨ k = 6 ∨ k = 7 ∨ k = 8 ∨ k = 9 ∨ k = 10 ∨ k = 11 ∨ k = 12 ∨ k = 13 ∨ k = 14 ∨ k = 15 ∨ k = 16 ∨ k = 17 ∨ k = 18 ∨ k = 19 ∨ k = 20 ∨ k = 21 ∨ k = 22 ∨ k = 23 ∨ k = 24 ∨ k = 25 := by omega
  rcases this with rfl | rfl | rfl | rfl | rfl | rfl | rfl | rfl | rfl | rfl | rfl | rfl | rfl | rfl | rfl | rfl | rfl | rfl | rfl | rfl | rfl | rfl | rfl | rfl | rfl | rfl <;> rfl
theorem cat_text (u v : List UInt8) : (⟨u.toArray⟩ ++ ⟨v.toArray⟩ : ByteArray) = ⟨(u ++ v).toArray⟩ := by
  apply ByteArray.ext
  simp [ByteArray.data_append]
set_option maxHeartbeats 1000000 in
theorem rname_any (p : Int × Int) (w : World) : Calls Try.prog 65 #[.agg #[.int .i64 p.1, .int .i64 p.2]] w fun e w' => e = .returned (.string ⟨(nameL p).toArray⟩) ∧ Below w.heap.size w w' := by
  have HR := Lib.hid (rright_any p)
  have K0 := Lib.hid (Below.al (Below.refl w.heap.size w) (.cells #[.int .i64 p.1, .int .i64 p.2] 83))
  cases hr : rightB p
  · rw [hr] at HR
    rw [nameL_no hr]
    go_enter Try.func65, Try.ntmps65
    go_wp2_with fail
    refine (HR.out _).mono ?_
    rintro e w1 ⟨rfl, hb⟩
    have K1 := Lib.hid (Below.call K0.out hb)
    clear hb
    go_wp2
    go_ret
    exact ⟨rfl, K1.out⟩
  · rw [hr] at HR
    rw [nameL_yes hr]
    obtain ⟨a, b⟩ := p
    obtain ⟨h1, h2, h3, h4⟩ := (right_iff _).1 hr
    simp only at h1 h2 h3 h4 HR ⊢
    have HTX := Lib.hid (rtext_any (b + 1) (by unfold fits; omega))
    have hl2 := txt_len (b + 1) (by unfold fits; omega)
    have hb1 : IntKind.i64.wrap (b + 1) = b + 1 := by rw [IntKind.wrap_i64]; omega
    obtain ⟨k, rfl⟩ : ∃ k : Nat, a = (k : Int) := ⟨a.toNat, by omega⟩
    by_cases hlo : k < 26
    · have HNM := Lib.hid (show nm ((k : Int)).toNat = [ltr k] by rw [Int.toNat_natCast, nm_lo k hlo])
      have habc := abc k hlo
      generalize txt (b + 1) = y at *
      generalize ltr k = x at *
      go_enter Try.func65, Try.ntmps65
      go_wp2_with fail
      refine (HR.out _).mono ?_
      rintro e w1 ⟨rfl, hb⟩
      have c0 := keep_cell (a := ⟨w.heap.size, 0, none⟩) (v := .int .i64 (k : Int)) hb (by go_simp)
      have c1 := keep_cell (a := ⟨w.heap.size, 1, none⟩) (v := .int .i64 b) hb (by go_simp)
      have K1 := Lib.hid (Below.call K0.out hb)
      clear hb
      go_wp2
      go_quiet ((go_at_call 64; exact Calls.quiet_of_same ((HTX.out _).mono fun _ _ q => ⟨q.1, q.2.symm⟩)))
      go_wp2
      go_ret
      refine ⟨ret_s ?_, below_drewN K1.out _⟩
      rw [HNM.out]
      exact (congrArg (· ++ _) (cat_text [] [x])).trans (cat_text [x] y)
    · obtain ⟨j, rfl⟩ : ∃ j, k = 26 + j := ⟨k - 26, by omega⟩
      have hj : j < 26 := by omega
      have HNM := Lib.hid (show nm (((26 + j : Nat) : Int)).toNat = [65, ltr j] by rw [Int.toNat_natCast, nm_hi _ hlo, show 26 + j - 26 = j by omega]; rfl)
      have habc := abc j hj
      have e1 : ((26 + j : Nat) : Int) = 26 + (j : Int) := by omega
      rw [e1] at HR K0 HNM ⊢
      rw [e1] at h2
      clear e1 h1 hr
      generalize txt (b + 1) = y at *
      generalize ltr j = x at *
      go_enter Try.func65, Try.ntmps65
      go_wp2_with fail
      refine (HR.out _).mono ?_
      rintro e w1 ⟨rfl, hb⟩
      have c0 := keep_cell (a := ⟨w.heap.size, 0, none⟩) (v := .int .i64 (26 + (j : Int))) hb (by go_simp)
      have c1 := keep_cell (a := ⟨w.heap.size, 1, none⟩) (v := .int .i64 b) hb (by go_simp)
      have K1 := Lib.hid (Below.call K0.out hb)
      have hjj : (0 : Int) ≤ (j : Int) := by omega
      have hd : decide (25 < 26 + (j : Int)) = true := by (rw [decide_eq_true_eq]; omega)
      have hs : IntKind.i64.wrap (26 + (j : Int) - 26) = (j : Int) := by rw [IntKind.wrap_i64]; omega
      have hs2 : 26 + (j : Int) - 26 = (j : Int) := by omega
      clear hb
      go_wp2
      go_quiet ((go_at_call 64; exact Calls.quiet_of_same ((HTX.out _).mono fun _ _ q => ⟨q.1, q.2.symm⟩)))
      go_wp2
      go_ret
      refine ⟨ret_s ?_, below_drewN K1.out _⟩
      rw [HNM.out]
      exact (congrArg (· ++ _) (cat_text [65] [x])).trans (cat_text [65, x] y)
end Go.Proofs.Ytegghoniboebkaa
