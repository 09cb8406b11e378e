/- The statement ZoneSpans, walked. -/
import Derived.Test.YtlgpnjbhmoomfaaZS
namespace Go.Proofs.Ytlgpnjbhmoomfaa
open Go.RowKit

set_option maxRecDepth 100000 in
set_option maxHeartbeats 8000000 in
theorem zoneSpans_walk (d : Dk) (id : Int) (hid : fits id) (w : World) (hd : d.In w w.heap.size) : Calls Try.prog 3 #[d.v, .int .i64 id] w fun e w' => e = .returned (.bool true) ∧ Below w.heap.size w w' := by
  have HD := Lib.hid hd
  have HLG := Lib.hid (fun w h => large_any d w h)
  have HLV := Lib.hid (fun w => lives9 w)
  have H1 := Lib.hid (fun w h => span_any d id hid w h)
  have H2 := Lib.hid (fun w h => rspan_any d id hid w h)
  have H3 := Lib.hid (fun w h => at_any d id hid w h)
  have H4 := Lib.hid (fun w h => rpart_any d id hid w h)
  have H5 := Lib.hid (fun p w h hp => rat_any d p w h hp)
  have HBI := Lib.hid (fun b w => bits_any b w)
  have HOK := Lib.hid (partV_ok d id)
  obtain ⟨w0, hw0⟩ : ∃ w0, w0 = w.alloc (.cells #[.slice d.bA d.bn d.bc, .slice d.pA d.pn d.pc, .slice d.rA d.rn d.rc, .int .i64 d.arms] 26) := ⟨_, rfl⟩
  have HB0 := Lib.hid (show Below w.heap.size w w0 by rw [hw0]; exact Below.al (Below.refl _ _) _)
  have HD0 := Lib.hid (HD.out.then HB0.out)
  have hsz0 : w.heap.size < w0.heap.size := by rw [hw0]; simp
  have HF := Lib.hid (show ∀ w1, Below w0.heap.size w0 w1 → (w1.cell? ⟨w.heap.size, 0, none⟩ = some (.slice d.bA d.bn d.bc) ∧ w1.cell? ⟨w.heap.size, 1, none⟩ = some (.slice d.pA d.pn d.pc) ∧ w1.cell? ⟨w.heap.size, 2, none⟩ = some (.slice d.rA d.rn d.rc) ∧ w1.cell? ⟨w.heap.size, 3, none⟩ = some (.int .i64 d.arms)) from by
      intro w1 hb
      refine ⟨keep_cell hb ?_, keep_cell hb ?_, keep_cell hb ?_, keep_cell hb ?_⟩
      all_goals (rw [hw0]; simp))
  clear hd
  rcases Bool.eq_false_or_eq_true (largeB d) with g | g
  · rw [g] at HLG
    clear g
    go_enter Try.func3, Try.ntmps3
    go_wp2_with fail
    rw [← hw0]
    clear hw0
    refine (HLG.out w0 HD0.out).mono ?_
    rintro e w1 ⟨rfl, hb1⟩
    have HB1 := Lib.hid hb1
    clear hb1
    go_wp2_with fail
    refine (HLV.out _).mono ?_
    rintro e w2 ⟨rfl, hb2⟩
    have HB2 := Lib.hid (Below.call HB1.out hb2)
    clear hb2
    go_wp2
    go_ret
    exact ⟨rfl, Below.call HB0.out HB2.out⟩
  · rw [g] at HLG
    have HAE := Lib.hid (show atE d id = if (partV d id).2 = 0 then (if (partV d id).1.a = 3 then 1 else 0) else (partV d id).2 from rfl)
    have HAM := Lib.hid (fun m (h : AtM d id m) => show (atE d id ≠ 0 → m = 0) ∧ (atE d id = 0 → Mid (rkOf d (partV d id).1).x (rkOf d (partV d id).1).p (cf (partV d id).1.d) m) from h)
    have HPL := Lib.hid (fun h => part_lies d (partV d id).1 (HOK.out h).2.1)
    clear g HOK
    generalize spanV d id = t at *
    generalize partV d id = pt at *
    obtain ⟨t1, t2, t3⟩ := t
    obtain ⟨p, ph⟩ := pt
    unfold rchVal at H1 H2
    unfold partVal at H4
    dsimp only at *
    generalize atE d id = ae at *
    go_enter Try.func3, Try.ntmps3
    go_wp2_with fail
    rw [← hw0]
    clear hw0
    refine (HLG.out w0 HD0.out).mono ?_
    rintro e w1 ⟨rfl, hb1⟩
    have HB1 := Lib.hid hb1
    clear hb1
    obtain ⟨d0, d1, d2, d3⟩ := HF.out w1 HB1.out
    go_wp2_with fail
    refine (H1.out w1 (HD0.out.then HB1.out)).mono ?_
    rintro e w2 ⟨rfl, hb2⟩
    have HB2 := Lib.hid (Below.call HB1.out hb2)
    obtain ⟨f0, f1, f2, f3⟩ := HF.out w2 HB2.out
    have hs2 : w.heap.size < w2.heap.size := Nat.lt_of_lt_of_le hsz0 HB2.out.size
    clear hb2 d0 d1 d2 d3
    go_wp2_with fail
    refine (H2.out _ (HD0.out.then (Below.al HB2.out _))).mono ?_
    rintro e w3 ⟨rfl, hb3⟩
    have a0 : w3.cell? ⟨w2.heap.size, 0, none⟩ = some (.int .i64 t1) := keep_cell hb3 (by simp)
    have a1 : w3.cell? ⟨w2.heap.size, 1, none⟩ = some (.int .i64 t2) := keep_cell hb3 (by simp)
    have HB3 := Lib.hid (Below.call (Below.al HB2.out (.cells #[.int .i64 t1, .int .i64 t2] 30)) hb3)
    obtain ⟨d0, d1, d2, d3⟩ := HF.out w3 HB3.out
    have hs3 : w2.heap.size < w3.heap.size := by have := hb3.size; simp at this; omega
    have hs3' : w.heap.size < w3.heap.size := by omega
    clear hb3 f0 f1 f2 f3
    go_wp2_with fail
    refine (H3.out _ (HD0.out.then (Below.al HB3.out _))).mono ?_
    rintro e w4 ⟨m, rfl, hm, hb4⟩
    have hb4' := Below.call (Below.al (Below.refl _ _) _) hb4
    have b0 := keep_cell hb4' a0
    have b1 := keep_cell hb4' a1
    have c0 : w4.cell? ⟨w3.heap.size, 0, none⟩ = some (.int .i64 t1) := keep_cell hb4 (by simp)
    have c1 : w4.cell? ⟨w3.heap.size, 1, none⟩ = some (.int .i64 t2) := keep_cell hb4 (by simp)
    have HM := Lib.hid (HAM.out m hm)
    have HB4 := Lib.hid (Below.call HB3.out hb4')
    clear hb4 hb4' hm a0 a1 d0 d1 d2 d3
    go_wp2_with fail
    refine (HLV.out _).mono ?_
    rintro e w5 ⟨rfl, hb5⟩
    have a0 := keep_cell hb5 b0
    have a1 := keep_cell hb5 b1
    have c0 := keep_cell hb5 c0
    have c1 := keep_cell hb5 c1
    have HB5 := Lib.hid (Below.call HB4.out hb5)
    obtain ⟨d0, d1, d2, d3⟩ := HF.out w5 HB5.out
    clear hb5 b0 b1
    go_wp2_with fail
    refine (H4.out _ (HD0.out.then HB5.out)).mono ?_
    rintro e w6 ⟨rfl, hb6⟩
    have HB6 := Lib.hid (Below.call HB5.out hb6)
    obtain ⟨f0, f1, f2, f3⟩ := HF.out w6 HB6.out
    have hs6 : w.heap.size < w6.heap.size := Nat.lt_of_lt_of_le hsz0 HB6.out.size
    clear hb6 d0 d1 d2 d3 a0 a1 c0 c1
    by_cases he : ph = 0
    · subst he
      by_cases h3 : p.a = 3
      · have hae : ae = 1 := by rw [HAE.out, if_pos rfl, if_pos h3]
        subst hae
        obtain rfl := HM.out.1 (by decide)
        have q3 : (p.a == 3) = true := by rw [beq_iff_eq]; exact h3
        clear h3
        go_wp2_with fail
        refine (HBI.out _ _).mono ?_
        rintro e w7 ⟨rfl, rfl⟩
        go_wp2
        go_ret
        exact ⟨ret_b (by simp), Below.call HB0.out (Below.al HB6.out _)⟩
      · have hae : ae = 0 := by rw [HAE.out, if_pos rfl, if_neg h3]
        subst hae
        have hl : Lies d p := by rcases HPL.out rfl with h | h; exact absurd h.1 h3; exact h
        have hmid := HM.out.2 rfl
        have q3 : (p.a == 3) = false := by rw [beq_eq_false_iff_ne]; exact h3
        have HR := Lib.hid (H5.out p _ (HD0.out.then (Below.al HB6.out (.cells #[.int .i64 p.a, .int .i64 p.b, .int .i64 p.c, .int .i64 p.d] 38))) hl)
        have HMD := Lib.hid hmid
        clear h3 hl hmid
        generalize rkOf d p = q at *
        go_wp2_with fail
        refine HR.out.mono ?_
        rintro e w7 ⟨y, rfl, hy, hb7⟩
        have HB7 := Lib.hid (Below.call (Below.al HB6.out (.cells #[.int .i64 p.a, .int .i64 p.b, .int .i64 p.c, .int .i64 p.d] 38)) hb7)
        have hcase : m = y ∨ (nanb m = true ∧ nanb y = true) := by
          have hx := HMD.out
          unfold Mid at hx hy
          rcases e : midO q.x q.p (cf p.d) with _ | v
          · rw [e] at hx hy; exact .inr ⟨hx, hy⟩
          · rw [e] at hx hy; exact .inl (hx.trans hy.symm)
        clear hb7 hy f0 f1 f2 f3
        by_cases hmy : m = y
        · subst hmy
          clear hcase
          go_wp2_with fail
          refine (HBI.out _ _).mono ?_
          rintro e w8 ⟨rfl, rfl⟩
          go_wp2_with fail
          refine (HBI.out _ _).mono ?_
          rintro e w8 ⟨rfl, rfl⟩
          go_wp2
          go_ret
          exact ⟨ret_b (by simp), Below.call HB0.out HB7.out⟩
        · obtain ⟨n1, n2⟩ : nanb m = true ∧ nanb y = true := by rcases hcase with h | h; exact absurd h hmy; exact h
          have o1 : (FloatKind.f64.format.order m m != some .eq) = true := by rw [self_eq]; exact n1
          have o2 : (FloatKind.f64.format.order y y != some .eq) = true := by rw [self_eq]; exact n2
          have q4 : ((m : Int) == (y : Int)) = false := by rw [beq_eq_false_iff_ne]; omega
          clear hcase n1 n2
          go_wp2_with fail
          refine (HBI.out _ _).mono ?_
          rintro e w8 ⟨rfl, rfl⟩
          go_wp2_with fail
          refine (HBI.out _ _).mono ?_
          rintro e w8 ⟨rfl, rfl⟩
          go_wp2
          go_ret
          exact ⟨ret_b (by simp), Below.call HB0.out HB7.out⟩
    · have hae : ae = ph := by rw [HAE.out, if_neg he]
      subst hae
      obtain rfl := HM.out.1 he
      have q1 : (ae != 0) = true := by rw [bne_iff_ne]; exact he
      clear he
      go_wp2_with fail
      refine (HBI.out _ _).mono ?_
      rintro e w7 ⟨rfl, rfl⟩
      go_wp2
      go_ret
      exact ⟨ret_b (by simp), Below.call HB0.out (Below.al HB6.out _)⟩
end Go.Proofs.Ytlgpnjbhmoomfaa
