/- A part's name: what it is, and the reference's. -/
import Derived.Test.YtegghoniboebkaaDQ
import Derived.Test.YtegghoniboebkaaWJ
import Derived.Test.YtegghoniboebkaaWM
namespace Go.Proofs.Ytegghoniboebkaa
open Go.RowKit
/-- A kind's letter. -/
def kl (a : Int) : UInt8 := if a = 1 then 80 else if a = 2 then 84 else 76
/-- A part's name. -/
def nameQ (p : Q4) : List UInt8 := if p.a = 3 then [kl p.a] ++ txt p.b else ([kl p.a] ++ txt p.b) ++ [46] ++ nameL (p.c, p.d)
theorem cat3 (x y z : List UInt8) : ((⟨x.toArray⟩ ++ ⟨y.toArray⟩ : ByteArray) ++ ⟨z.toArray⟩) = ⟨(x ++ y ++ z).toArray⟩ := by rw [cat_text, cat_text]
theorem nameL_len (p : Int × Int) : (nameL p).length ≤ 23 := by
  cases h : rightB p
  · rw [nameL_no h]; simp
  · rw [nameL_yes h, List.length_append]
    have h1 := nm_len p.1.toNat
    have h2 := txt_len (p.2 + 1) (by have := (right_iff p).1 h; unfold fits; omega)
    omega
set_option maxRecDepth 100000 in
set_option maxHeartbeats 2000000 in
theorem rnm_any (p : Q4) (hp : okP p) (w : World) : Calls Try.prog 56 #[p.v] w fun e w' => e = .returned (.string ⟨(nameQ p).toArray⟩) ∧ Below w.heap.size w w' := by
  obtain ⟨a, b, c, d⟩ := p
  obtain ⟨h1, h2, h3, h4, h5, h6, h7, h8⟩ := hp
  simp only at h1 h2 h3 h4 h5 h6 h7 h8
  have HTX := Lib.hid (rtext_any b (by unfold fits; omega))
  have hl1 := txt_len b (by unfold fits; omega)
  have hl2 := nameL_len (c, d)
  have HNM := Lib.hid (fun w => rname_any (c, d) w)
  have K0 := Lib.hid (Below.al (Below.refl w.heap.size w) (.cells #[.int .i64 a, .int .i64 b, .int .i64 c, .int .i64 d] 50))
  show Calls Try.prog 56 #[.agg #[.int .i64 a, .int .i64 b, .int .i64 c, .int .i64 d]] w _
  rcases h1 with rfl | rfl | rfl
  · have HN := Lib.hid (show nameQ ⟨1, b, c, d⟩ = ([80] ++ txt b) ++ [46] ++ nameL (c, d) from rfl)
    rw [HN.out]
    generalize txt b = x at *
    generalize nameL (c, d) = y at *
    have hw2 : IntKind.i64.wrap 2 = 2 := by decide
    obtain ⟨u, hu⟩ : ∃ u, u = (80 : UInt8) := ⟨_, rfl⟩
    have habc : (⟨#[32, 80, 84, 76]⟩ : ByteArray).extract 1 2 = ⟨[u].toArray⟩ := by rw [hu]; rfl
    rw [← hu]
    clear HN h2 h3 h4 h5 h6 h7 h8 hu
    go_enter Try.func56, Try.ntmps56
    go_wp2_with fail
    go_quiet ((go_at_call 64; exact Calls.quiet_of_same ((HTX.out _).mono fun _ _ q => ⟨q.1, q.2.symm⟩)))
    go_wp2_with fail
    refine (HNM.out _).mono ?_
    rintro e w1 ⟨rfl, hb1⟩
    have HB1 := Lib.hid (Below.call (below_drewN K0.out _) hb1)
    clear hb1
    go_wp2
    go_ret
    refine ⟨ret_s ?_, HB1.out⟩
    exact (congrArg (· ++ _) ((congrArg (· ++ _) (cat_text [u] x)).trans (cat_text ([u] ++ x) [46]))).trans (cat_text _ y)
  · have HN := Lib.hid (show nameQ ⟨2, b, c, d⟩ = ([84] ++ txt b) ++ [46] ++ nameL (c, d) from rfl)
    rw [HN.out]
    generalize txt b = x at *
    generalize nameL (c, d) = y at *
    have hw2 : IntKind.i64.wrap 3 = 3 := by decide
    obtain ⟨u, hu⟩ : ∃ u, u = (84 : UInt8) := ⟨_, rfl⟩
    have habc : (⟨#[32, 80, 84, 76]⟩ : ByteArray).extract 2 3 = ⟨[u].toArray⟩ := by rw [hu]; rfl
    rw [← hu]
    clear HN h2 h3 h4 h5 h6 h7 h8 hu
    go_enter Try.func56, Try.ntmps56
    go_wp2_with fail
    go_quiet ((go_at_call 64; exact Calls.quiet_of_same ((HTX.out _).mono fun _ _ q => ⟨q.1, q.2.symm⟩)))
    go_wp2_with fail
    refine (HNM.out _).mono ?_
    rintro e w1 ⟨rfl, hb1⟩
    have HB1 := Lib.hid (Below.call (below_drewN K0.out _) hb1)
    clear hb1
    go_wp2
    go_ret
    refine ⟨ret_s ?_, HB1.out⟩
    exact (congrArg (· ++ _) ((congrArg (· ++ _) (cat_text [u] x)).trans (cat_text ([u] ++ x) [46]))).trans (cat_text _ y)
  · have HN := Lib.hid (show nameQ ⟨3, b, c, d⟩ = [76] ++ txt b from rfl)
    rw [HN.out]
    generalize txt b = x at *
    generalize nameL (c, d) = y at *
    have hw2 : IntKind.i64.wrap 4 = 4 := by decide
    obtain ⟨u, hu⟩ : ∃ u, u = (76 : UInt8) := ⟨_, rfl⟩
    have habc : (⟨#[32, 80, 84, 76]⟩ : ByteArray).extract 3 4 = ⟨[u].toArray⟩ := by rw [hu]; rfl
    rw [← hu]
    clear HN h2 h3 h4 h5 h6 h7 h8 hu
    go_enter Try.func56, Try.ntmps56
    go_wp2_with fail
    go_quiet ((go_at_call 64; exact Calls.quiet_of_same ((HTX.out _).mono fun _ _ q => ⟨q.1, q.2.symm⟩)))
    go_wp2_with fail
    go_ret
    refine ⟨ret_s ?_, below_drewN K0.out _⟩
    exact cat_text [u] x
end Go.Proofs.Ytegghoniboebkaa
