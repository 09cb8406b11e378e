/- A part's id, and how many parts there are: what the program answers. -/
import Derived.Test.YtlgpnjbhmoomfaaDI
namespace Go.Proofs.Ytlgpnjbhmoomfaa
open Go.RowKit

noncomputable def cntV (d : Dk) : Int × Int × Int := if dchk d = 0 then (wellsV d.pl, tipsV d.rl, (d.bl.length : Int) - 1) else (0, 0, 0)
theorem ret_iii {a b c x y z : Int} (h : a = x) (k : b = y) (l : c = z) : Ending.returned (.tuple #[.int .i64 a, .int .i64 b, .int .i64 c]) = .returned (.tuple #[.int .i64 x, .int .i64 y, .int .i64 z]) := by rw [h, k, l]
set_option maxRecDepth 100000 in
set_option maxHeartbeats 4000000 in
theorem counts_any (d : Dk) (w : World) (hd : d.In w w.heap.size) : Calls Try.prog 55 #[d.v] w fun e w' => e = .returned (.tuple #[.int .i64 (cntV d).1, .int .i64 (cntV d).2.1, .int .i64 (cntV d).2.2]) ∧ Below w.heap.size w w' := by
  have HC := Lib.hid (fun w h => dcheck_any d w h)
  have HP := Lib.hid (fun w h a b c e => places_any d w h a b c e)
  have HD := Lib.hid hd
  have hbn := hd.b.len
  obtain ⟨w0, hw0⟩ : ∃ w0, w0 = w.alloc (.cells #[.slice d.bA d.bn d.bc, .slice d.pA d.pn d.pc, .slice d.rA d.rn d.rc, .int .i64 d.arms] 26) := ⟨_, rfl⟩
  have HB0 := Lib.hid (show Below w.heap.size w w0 by rw [hw0]; exact Below.al (Below.refl _ _) _)
  have HD0 := Lib.hid (HD.out.then HB0.out)
  have HF := Lib.hid (show ∀ w1, Below w0.heap.size w0 w1 → (w1.cell? ⟨w.heap.size, 0, none⟩ = some (.slice d.bA d.bn d.bc) ∧ w1.cell? ⟨w.heap.size, 1, none⟩ = some (.slice d.pA d.pn d.pc) ∧ w1.cell? ⟨w.heap.size, 2, none⟩ = some (.slice d.rA d.rn d.rc) ∧ w1.cell? ⟨w.heap.size, 3, none⟩ = some (.int .i64 d.arms)) from by
      intro w1 hb
      refine ⟨keep_cell hb ?_, keep_cell hb ?_, keep_cell hb ?_, keep_cell hb ?_⟩
      all_goals (rw [hw0]; simp))
  by_cases hz : dchk d = 0
  · have HOK := Lib.hid (dchk_ok d hz)
    have T : cntV d = (wellsV d.pl, tipsV d.rl, (d.bl.length : Int) - 1) := by unfold cntV; rw [if_pos hz]
    rw [T]
    rw [hz] at HC
    have b2 := HOK.out.rise.two
    have b3 := HOK.out.rise.most
    clear hz T hd
    dsimp only
    rw [← hbn] at b2 b3 ⊢
    clear hbn
    generalize wellsV d.pl = s at *
    generalize tipsV d.rl = t at *
    go_enter Try.func55, Try.ntmps55
    go_wp2_with fail
    rw [← hw0]
    clear hw0
    refine (HC.out _ HD0.out).mono ?_
    rintro e w1 ⟨rfl, hb1⟩
    obtain ⟨d0, d1, d2, d3⟩ := HF.out w1 hb1
    have HB1 := Lib.hid hb1
    clear hb1
    go_wp2_with fail
    refine (HP.out w1 (HD0.out.then HB1.out) HOK.out.p4 HOK.out.r4 (fun i hi => plate_size (HOK.out.pl i hi)) HOK.out.rl).mono ?_
    rintro e w2 ⟨rfl, hb2⟩
    have q0 := keep_cell hb2 d0
    have HB2 := Lib.hid (Below.call HB1.out hb2)
    clear hb2 d0 d1 d2 d3
    go_wp2_with fail
    go_quiet (fail)
    go_wp2
    go_ret3
    exact ⟨rfl, below_drewN (Below.call HB0.out HB2.out) _⟩
  · have T : cntV d = (0, 0, 0) := by unfold cntV; rw [if_neg hz]
    rw [T]
    have hz' : (dchk d != 0) = true := by rw [bne_iff_ne]; exact hz
    clear T hz hd hbn
    generalize dchk d = c at *
    go_enter Try.func55, Try.ntmps55
    go_wp2_with fail
    rw [← hw0]
    clear hw0
    refine (HC.out _ HD0.out).mono ?_
    rintro e w1 ⟨rfl, hb1⟩
    have HB1 := Lib.hid hb1
    clear hb1
    go_wp2
    go_ret3
    exact ⟨rfl, Below.call HB0.out HB1.out⟩

end Go.Proofs.Ytlgpnjbhmoomfaa
