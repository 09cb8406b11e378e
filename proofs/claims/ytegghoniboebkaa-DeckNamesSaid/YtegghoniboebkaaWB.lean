/- A place's name. -/
import Derived.Test.YtegghoniboebkaaWA
import Derived.Test.YtegghoniboebkaaBA
namespace Go.Proofs.Ytegghoniboebkaa
open Go.RowKit
theorem nm_len (r : Nat) : 1 ≤ (nm r).length ∧ (nm r).length ≤ 2 := by
  unfold nm
  split <;> simp
theorem txt_len (n : Int) (h : fits n) : (txt n).length ≤ 21 := by
  have := dig_20 n.natAbs (by unfold fits at h; omega)
  unfold txt
  split
  · rw [List.length_cons]; omega
  · omega
theorem nameL_no {p : Int × Int} (h : rightB p = false) : nameL p = [] := by rw [nameL, h]; rfl
theorem nameL_yes {p : Int × Int} (h : rightB p = true) : nameL p = nm p.1.toNat ++ txt (p.2 + 1) := by rw [nameL, h]; rfl
theorem right_iff (p : Int × Int) : rightB p = true ↔ (0 ≤ p.1 ∧ p.1 ≤ 31 ∧ 0 ≤ p.2 ∧ p.2 ≤ 47) := by rw [rightB, decide_eq_true_eq]
set_option maxHeartbeats 1000000 in
theorem name_any (p : Int × Int) (w : World) : Calls Try.prog 55 #[.agg #[.int .i64 p.1, .int .i64 p.2]] w fun e w' => e = .returned (.string ⟨(nameL p).toArray⟩) ∧ Below w.heap.size w w' := by
  have HR := Lib.hid (right_any p)
  have K0 := Lib.hid (Below.al (Below.refl w.heap.size w) (.cells #[.int .i64 p.1, .int .i64 p.2] 83))
  cases hr : rightB p
  · rw [hr] at HR
    rw [nameL_no hr]
    go_enter Try.func55, Try.ntmps55
    go_wp2_with fail
    refine (HR.out _).mono ?_
    rintro e w1 ⟨rfl, hb⟩
    have K1 := Lib.hid (Below.call K0.out hb)
    clear hb
    go_wp2
    go_ret
    exact ⟨rfl, K1.out⟩
  · rw [hr] at HR
    rw [nameL_yes hr]
    obtain ⟨a, b⟩ := p
    obtain ⟨h1, h2, h3, h4⟩ := (right_iff _).1 hr
    simp only at h1 h2 h3 h4 HR ⊢
    have HRN : Hid (∀ w, Calls Try.prog 63 #[.int .i64 a] w fun e w' => e = .returned (.string ⟨(nm a.toNat).toArray⟩) ∧ w = w') := Lib.hid (fun w => by
      have := rowName_any a.toNat (by omega) w
      rw [show ((a.toNat : Nat) : Int) = a by omega] at this
      exact this)
    have HTX := Lib.hid (text_any (b + 1) (by unfold fits; omega))
    have hl1 := nm_len a.toNat
    have hl2 := txt_len (b + 1) (by unfold fits; omega)
    have hadd := fun w => add_text w (nm a.toNat) (txt (b + 1)) (by omega) (by omega)
    have hb1 : IntKind.i64.wrap (b + 1) = b + 1 := by rw [IntKind.wrap_i64]; omega
    generalize nm a.toNat = x at *
    generalize txt (b + 1) = y at *
    clear hr hl1 hl2
    go_enter Try.func55, Try.ntmps55
    go_wp2_with fail
    refine (HR.out _).mono ?_
    rintro e w1 ⟨rfl, hb⟩
    have c0 := keep_cell (a := ⟨w.heap.size, 0, none⟩) (v := .int .i64 a) hb (by go_simp)
    have c1 := keep_cell (a := ⟨w.heap.size, 1, none⟩) (v := .int .i64 b) hb (by go_simp)
    have K1 := Lib.hid (Below.call K0.out hb)
    clear hb
    go_wp2
    go_region_held3 (fun w' => w'.cell? ⟨w.heap.size, 0, none⟩ = some (.int .i64 a) ∧ w'.cell? ⟨w.heap.size, 1, none⟩ = some (.int .i64 b) ∧ Below w1.heap.size w1 w')
      (first | exact ⟨c0, c1, (Below.refl _ _).drew⟩ | assumption | go_keep | (go_split_ands; exact ⟨keep_cell hb (by assumption), keep_cell hb (by assumption), Below.call (by assumption) hb⟩))
      (first
        | (go_at_call 63; ((with_reducible refine (HRN.out _).mono ?_); rintro e w' ⟨rfl, rfl⟩))
        | (go_at_call 54; ((with_reducible refine (HTX.out _).mono ?_); rintro e w2 ⟨rfl, hb⟩)))
    all_goals
      go_wp2
      go_ret
      exact ⟨rfl, Below.call K1.out (by go_split_ands; assumption)⟩
end Go.Proofs.Ytegghoniboebkaa
