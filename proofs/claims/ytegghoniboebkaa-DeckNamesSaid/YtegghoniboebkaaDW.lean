/- What must come of every program (layer 8). -/
import Derived.Test.YtegghoniboebkaaDV
namespace Go.Proofs.Ytegghoniboebkaa
open Go.RowKit
/-- The example's deck, wherever its lists lie. -/
def litPl (S : Option Addr) : Pl := ⟨2, 3, 0, 0, 0, 100, S, 1, 1, [5]⟩
def litRk : Rk := ⟨1, 2, 0, 0, 0⟩
def litB : List Nat := [0, 4621256167635550208, 4625759767262920704]
def litD (A P R S : Option Addr) : Dk := ⟨A, 3, 3, litB, P, 1, 1, [litPl S], R, 1, 1, [litRk], 2⟩
theorem lit_b : chkE litB = 0 := by decide +kernel
theorem lit_chk (A P R S : Option Addr) : dchk (litD A P R S) = 0 := by
  unfold dchk
  rw [show (litD A P R S).bl = litB from rfl, if_neg (by rw [lit_b]; simp)]
  kernel_rfl
theorem lit_cnt (A P R S : Option Addr) : cntV (litD A P R S) = (6, 2, 2) := by
  unfold cntV
  rw [if_pos (lit_chk A P R S)]
  kernel_rfl
theorem lit_parts (A P R S : Option Addr) : partsL (litD A P R S) = [⟨1, 0, 0, 0⟩, ⟨1, 0, 0, 1⟩, ⟨1, 0, 0, 2⟩, ⟨1, 0, 1, 0⟩, ⟨1, 0, 1, 1⟩, ⟨1, 0, 1, 2⟩, ⟨2, 0, 0, 0⟩, ⟨2, 0, 0, 1⟩, ⟨3, 0, 0, 0⟩, ⟨3, 1, 0, 0⟩] := by
  kernel_rfl
theorem lit_part (A P R S : Option Addr) (id : Int) : partV (litD A P R S) id = partR [⟨1, 0, 0, 0⟩, ⟨1, 0, 0, 1⟩, ⟨1, 0, 0, 2⟩, ⟨1, 0, 1, 0⟩, ⟨1, 0, 1, 1⟩, ⟨1, 0, 1, 2⟩, ⟨2, 0, 0, 0⟩, ⟨2, 0, 0, 1⟩, ⟨3, 0, 0, 0⟩, ⟨3, 1, 0, 0⟩] id := by
  unfold partV
  rw [if_pos (lit_chk A P R S), lit_parts]
theorem lit_id (A P R S : Option Addr) (p : Q4) : idV (litD A P R S) p = idR p [⟨1, 0, 0, 0⟩, ⟨1, 0, 0, 1⟩, ⟨1, 0, 0, 2⟩, ⟨1, 0, 1, 0⟩, ⟨1, 0, 1, 1⟩, ⟨1, 0, 1, 2⟩, ⟨2, 0, 0, 0⟩, ⟨2, 0, 0, 1⟩, ⟨3, 0, 0, 0⟩, ⟨3, 1, 0, 0⟩] 0 := by
  unfold idV
  rw [if_pos (lit_chk A P R S), lit_parts]
theorem lit_part4 (A P R S : Option Addr) : partV (litD A P R S) 4 = (⟨1, 0, 1, 1⟩, 0) := by rw [lit_part]; kernel_rfl
theorem lit_part9 (A P R S : Option Addr) : partV (litD A P R S) 9 = (⟨3, 1, 0, 0⟩, 0) := by rw [lit_part]; kernel_rfl
theorem lit_part3 (A P R S : Option Addr) : partV (litD A P R S) 3 = (⟨1, 0, 1, 0⟩, 0) := by rw [lit_part]; kernel_rfl
theorem lit_part0 (A P R S : Option Addr) : partV (litD A P R S) 0 = (⟨1, 0, 0, 0⟩, 0) := by rw [lit_part]; kernel_rfl
theorem lit_id9 (A P R S : Option Addr) : idV (litD A P R S) ⟨3, 1, 0, 0⟩ = (9, 0) := by rw [lit_id]; decide
theorem lit_name (A P R S : Option Addr) : nameV (litD A P R S) 9 = [76, 49] := by
  unfold nameV
  rw [lit_part9, if_pos rfl]
  unfold nameQ
  rw [if_pos rfl]
  simp [kl, txt, dig, dg]
theorem lit_cap (A P R S : Option Addr) : capV (litD A P R S) 3 = 100 := by
  unfold capV
  rw [lit_part3, if_pos ⟨rfl, rfl⟩]
  rfl
theorem lit_start (A P R S : Option Addr) : startV (litD A P R S) 0 = 5 := by
  unfold startV
  rw [lit_part0, if_pos ⟨rfl, rfl⟩]
  rfl
theorem lit_tell : nameQ ⟨2, 0, 0, 1⟩ = [84, 48, 46, 65, 50] := by
  simp [nameQ, kl, txt, dig, dg, nameL, nm, ltr, rightB]
theorem lit_find (A P R S : Option Addr) : findV (litD A P R S) [84, 48, 46, 65, 50] = (7, 0) := by
  rw [← lit_tell]
  unfold findV
  rw [if_pos (lit_chk A P R S), name_tell ⟨2, 0, 0, 1⟩ (by unfold okP; decide), if_pos rfl, lit_id]
  decide

set_option maxRecDepth 100000 in
set_option maxHeartbeats 4000000 in
theorem little_any (w : World) : Calls Try.prog 44 #[] w fun e w' => ∃ A P R S, e = .returned (litD A P R S).v ∧ (litD A P R S).In w' w'.heap.size ∧ Below w.heap.size w w' := by
  have HIN : Hid (∀ w0 : World, ∀ o : Obj, ∀ w1, w1 = w0.alloc o →
      (litD (some ⟨w0.heap.size + 1, 0, none⟩) (some ⟨w0.heap.size + 1 + 1 + 1, 0, none⟩) (some ⟨w0.heap.size + 1 + 1 + 1 + 1, 0, none⟩) (some ⟨w0.heap.size + 1 + 1, 0, none⟩)).In
        ((((w1.alloc (.cells #[.float .f64 0, .float .f64 4621256167635550208, .float .f64 4625759767262920704] 28)).alloc (.cells #[.int .i64 5] 3)).alloc
          (.cells #[.int .i64 2, .int .i64 3, .float .f64 0, .float .f64 0, .float .f64 0, .int .i64 100, .slice (some ⟨w0.heap.size + 1 + 1, 0, none⟩) 1 1] 63)).alloc
          (.cells #[.int .i64 1, .int .i64 2, .float .f64 0, .float .f64 0, .float .f64 0] 72)) (w0.heap.size + 1 + 1 + 1 + 1 + 1)) := Lib.hid (by
    intro w0 o w1 h1
    have hs1 : w1.heap.size = w0.heap.size + 1 := by rw [h1]; simp
    generalize w0.heap.size = H at *
    clear h1
    have hA := Lk.IsL.lits (K := KF) w1 litB #[.float .f64 0, .float .f64 4621256167635550208, .float .f64 4625759767262920704] (show ∀ x ∈ litB, x < 18446744073709551616 by decide) rfl (by decide) (H + 1) hs1
    have hw2 : w1.alloc (.cells #[.float .f64 0, .float .f64 4621256167635550208, .float .f64 4625759767262920704] KF.E) = w1.alloc (.cells #[.float .f64 0, .float .f64 4621256167635550208, .float .f64 4625759767262920704] 28) := rfl
    rw [hw2] at hA
    clear hw2
    have hs2 : (w1.alloc (.cells #[.float .f64 0, .float .f64 4621256167635550208, .float .f64 4625759767262920704] 28)).heap.size = H + 1 + 1 := by simp [hs1]
    generalize w1.alloc (.cells #[.float .f64 0, .float .f64 4621256167635550208, .float .f64 4625759767262920704] 28) = w2 at *
    have hS : KI.IsL (w2.alloc (.cells #[.int .i64 5] 3)) (H + 1 + 1 + 1) (.slice (some ⟨H + 1 + 1, 0, none⟩) 1 1) [5] := Lk.IsL.lits (K := KI) w2 [5] #[.int .i64 5] (by intro x hx; simp at hx; subst hx; show fits 5; decide) rfl (by decide) (H + 1 + 1) hs2
    have hb3 := Below.al (Below.refl w2.heap.size w2) (.cells #[.int .i64 5] 3)
    have hs3 : (w2.alloc (.cells #[.int .i64 5] 3)).heap.size = H + 1 + 1 + 1 := by simp [hs2]
    generalize w2.alloc (.cells #[.int .i64 5] 3) = w3 at *
    have hP : KP.IsL (w3.alloc (.cells #[.int .i64 2, .int .i64 3, .float .f64 0, .float .f64 0, .float .f64 0, .int .i64 100, .slice (some ⟨H + 1 + 1, 0, none⟩) 1 1] 63)) (H + 1 + 1 + 1 + 1) (.slice (some ⟨H + 1 + 1 + 1, 0, none⟩) 1 1) [litPl (some ⟨H + 1 + 1, 0, none⟩)] :=
      Lk.IsL.lits (K := KP) w3 [litPl (some ⟨H + 1 + 1, 0, none⟩)] #[.int .i64 2, .int .i64 3, .float .f64 0, .float .f64 0, .float .f64 0, .int .i64 100, .slice (some ⟨H + 1 + 1, 0, none⟩) 1 1] (by
        intro x hx
        simp at hx
        subst hx
        show fits 2 ∧ fits 3 ∧ (0 : Nat) < 18446744073709551616 ∧ (0 : Nat) < 18446744073709551616 ∧ (0 : Nat) < 18446744073709551616 ∧ fits 100
        decide) rfl (by simp) (H + 1 + 1 + 1) hs3
    have hb4 := Below.al (Below.refl w3.heap.size w3) (.cells #[.int .i64 2, .int .i64 3, .float .f64 0, .float .f64 0, .float .f64 0, .int .i64 100, .slice (some ⟨H + 1 + 1, 0, none⟩) 1 1] 63)
    have hs4 : (w3.alloc (.cells #[.int .i64 2, .int .i64 3, .float .f64 0, .float .f64 0, .float .f64 0, .int .i64 100, .slice (some ⟨H + 1 + 1, 0, none⟩) 1 1] 63)).heap.size = H + 1 + 1 + 1 + 1 := by simp [hs3]
    generalize w3.alloc (.cells #[.int .i64 2, .int .i64 3, .float .f64 0, .float .f64 0, .float .f64 0, .int .i64 100, .slice (some ⟨H + 1 + 1, 0, none⟩) 1 1] 63) = w4 at *
    have hR : KR.IsL (w4.alloc (.cells #[.int .i64 1, .int .i64 2, .float .f64 0, .float .f64 0, .float .f64 0] 72)) (H + 1 + 1 + 1 + 1 + 1) (.slice (some ⟨H + 1 + 1 + 1 + 1, 0, none⟩) 1 1) [litRk] :=
      Lk.IsL.lits (K := KR) w4 [litRk] #[.int .i64 1, .int .i64 2, .float .f64 0, .float .f64 0, .float .f64 0] (by
        intro x hx
        simp at hx
        subst hx
        show fits 1 ∧ fits 2 ∧ (0 : Nat) < 18446744073709551616 ∧ (0 : Nat) < 18446744073709551616 ∧ (0 : Nat) < 18446744073709551616
        decide) rfl (by simp) (H + 1 + 1 + 1 + 1) hs4
    have hb5 := Below.al (Below.refl w4.heap.size w4) (.cells #[.int .i64 1, .int .i64 2, .float .f64 0, .float .f64 0, .float .f64 0] 72)
    generalize w4.alloc (.cells #[.int .i64 1, .int .i64 2, .float .f64 0, .float .f64 0, .float .f64 0] 72) = w5 at *
    rw [hs4] at hb5
    rw [hs3] at hb4
    rw [hs2] at hb3
    refine ⟨(((hA.below hb3).more (by omega)).below (hb4.trans (hb5.mono (by omega))) : KF.IsL w5 (H + 1 + 1 + 1) _ _).more (by omega), ((hP.below hb5).more (by omega)), hR, fun q hq => ?_, (by show fits 2; decide)⟩
    have hq' : q = litPl (some ⟨H + 1 + 1, 0, none⟩) := by simpa [litD] using hq
    subst hq'
    exact ((hS.below hb4).more (by omega : H + 1 + 1 + 1 ≤ H + 1 + 1 + 1 + 1)).below hb5 |>.more (by omega))
  go_enter Try.func44, Try.ntmps44
  go_wp2_with fail
  refine bodyPost_ret (v := (litD (some ⟨w.heap.size + 1, 0, none⟩) (some ⟨w.heap.size + 1 + 1 + 1, 0, none⟩) (some ⟨w.heap.size + 1 + 1 + 1 + 1, 0, none⟩) (some ⟨w.heap.size + 1 + 1, 0, none⟩)).v) (by simp [results, Try.results44, go_sem, litD]) rfl ⟨_, _, _, _, rfl, ?_, Below.al (Below.al (Below.al (Below.al (Below.al (Below.refl _ _) _) _) _) _) _⟩
  exact (HIN.out w _ _ rfl).more (by simp)
end Go.Proofs.Ytegghoniboebkaa
