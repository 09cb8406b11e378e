/- The law on decks' checks and counts. -/
import Derived.Test.YtegghoniboebkaaDX
namespace Go.Proofs.Ytegghoniboebkaa
open Go.RowKit
/-- What each law of layer 8 answers. -/
def Good8 (w : World) (e : Ending) (w' : World) : Prop := e = .returned (.bool true) ∧ Below w.heap.size w w'
set_option maxRecDepth 100000 in
set_option maxHeartbeats 8000000 in
theorem deckChecks_walk (d : Dk) (w : World) (hd : d.In w w.heap.size) : Calls Try.prog 7 #[d.v] w (Good8 w) := by
  have HD := Lib.hid hd
  have HLG := Lib.hid (fun w h => large_any d w h)
  have HLV := Lib.hid (fun w => lives8 w)
  have HC := Lib.hid (fun w h => counts_any d w h)
  have HRC := Lib.hid (fun w h => rcounts_any d w h)
  have HK := Lib.hid (fun w h => dcheck_any d w h)
  have HRK := Lib.hid (fun w h => rdcheck_any d w h)
  obtain ⟨w0, hw0⟩ : ∃ w0, w0 = w.alloc (.cells #[.slice d.bA d.bn d.bc, .slice d.pA d.pn d.pc, .slice d.rA d.rn d.rc, .int .i64 d.arms] 44) := ⟨_, rfl⟩
  have HB0 := Lib.hid (show Below w.heap.size w w0 by rw [hw0]; exact Below.al (Below.refl _ _) _)
  have HD0 := Lib.hid (HD.out.then HB0.out)
  obtain ⟨b, hb⟩ : ∃ b, b = w.heap.size := ⟨_, rfl⟩
  have HX := Lib.hid (show ∀ w3, Below w0.heap.size w0 w3 → b < w3.heap.size ∧ (w3.cell? ⟨b, 0, none⟩ = some (.slice d.bA d.bn d.bc) ∧ w3.cell? ⟨b, 1, none⟩ = some (.slice d.pA d.pn d.pc) ∧ w3.cell? ⟨b, 2, none⟩ = some (.slice d.rA d.rn d.rc) ∧ w3.cell? ⟨b, 3, none⟩ = some (.int .i64 d.arms)) from by
    intro w3 h
    refine ⟨Nat.lt_of_lt_of_le (by rw [hw0, hb]; simp) h.size, keep_cell h ?_, keep_cell h ?_, keep_cell h ?_, keep_cell h ?_⟩
    all_goals (rw [hw0, hb]; simp))
  generalize dchk d = ck at *
  generalize cntV d = cv at *
  obtain ⟨cw, ct, cl⟩ := cv
  dsimp only at *
  clear hd
  cases hlg : largeB d
  · rw [hlg] at HLG
    clear hlg
    go_enter Try.func7, Try.ntmps7
    go_wp2_with fail
    rw [← hw0, ← hb]
    clear hw0 hb
    refine (HLG.out _ HD0.out).mono ?_
    rintro e w1 ⟨rfl, hb1⟩
    have HB1 := Lib.hid hb1
    clear hb1
    obtain ⟨hz, d0, d1, d2, d3⟩ := HX.out _ HB1.out
    go_wp2_with fail
    clear d0 d1 d2 d3 hz
    refine (HC.out _ (HD0.out.then HB1.out)).mono ?_
    rintro e w2 ⟨rfl, hb2⟩
    have HB2 := Lib.hid (Below.call HB1.out hb2)
    clear hb2 HB1
    obtain ⟨hz, d0, d1, d2, d3⟩ := HX.out _ HB2.out
    go_wp2_with fail
    clear d0 d1 d2 d3 hz
    refine (HRC.out _ (HD0.out.then HB2.out)).mono ?_
    rintro e w3 ⟨rfl, hb3⟩
    have HB3 := Lib.hid (Below.call HB2.out hb3)
    clear hb3 HB2
    obtain ⟨hz, d0, d1, d2, d3⟩ := HX.out _ HB3.out
    go_wp2_with fail
    have HI3 := Lib.hid (HD0.out.then HB3.out)
    go_region_held3 (fun w' => w'.cell? ⟨b, 0, none⟩ = some (.slice d.bA d.bn d.bc) ∧ w'.cell? ⟨b, 1, none⟩ = some (.slice d.pA d.pn d.pc) ∧ w'.cell? ⟨b, 2, none⟩ = some (.slice d.rA d.rn d.rc) ∧ w'.cell? ⟨b, 3, none⟩ = some (.int .i64 d.arms) ∧ Below w3.heap.size w3 w')
      (first | exact ⟨d0, d1, d2, d3, (Below.refl _ _).drew⟩ | assumption | go_keep | (go_split_ands; exact ⟨keep_cell hbc (by assumption), keep_cell hbc (by assumption), keep_cell hbc (by assumption), keep_cell hbc (by assumption), Below.call (by assumption) hbc⟩))
      (first
        | (go_at_call 22; ((with_reducible refine (HLV.out _).mono ?_); rintro e w4 ⟨rfl, hbc⟩))
        | (go_at_call 25; ((with_reducible refine (HK.out _ (HI3.out.then (by go_split_ands; assumption))).mono ?_); rintro e w4 ⟨rfl, hbc⟩))
        | (go_at_call 26; ((with_reducible refine (HRK.out _ (HI3.out.then (by go_split_ands; assumption))).mono ?_); rintro e w4 ⟨rfl, hbc⟩)))
    all_goals
      go_wp2
      go_ret
      exact ⟨ret_b (by simp), Below.call (Below.call HB0.out HB3.out) (by go_split_ands; assumption)⟩
  · rw [hlg] at HLG
    clear hlg
    go_enter Try.func7, Try.ntmps7
    go_wp2_with fail
    rw [← hw0, ← hb]
    clear hw0 hb
    refine (HLG.out _ HD0.out).mono ?_
    rintro e w1 ⟨rfl, hb1⟩
    have HB1 := Lib.hid hb1
    clear hb1
    go_wp2_with fail
    refine (HLV.out _).mono ?_
    rintro e w2 ⟨rfl, hb2⟩
    have HB2 := Lib.hid (Below.call HB1.out hb2)
    clear hb2
    go_wp2_with fail
    go_ret
    exact ⟨rfl, Below.call HB0.out HB2.out⟩
end Go.Proofs.Ytegghoniboebkaa
