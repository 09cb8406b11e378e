/- Plans: whether deeds are two-phased, as the reference tells it. -/
import Derived.Test.YtbflkdkbfidleaaVE
import Derived.Test.YtbflkdkbfidleaaVD
import Derived.Deep.Cut
namespace Go.Proofs.Ytbflkdkbfidleaa
open Go.RowKit
theorem tw5 (d : Bool) (h : List Int) (x : Int) (r : List (Int × Int)) (q : Bool) (hq : decide (r = []) = q) : tw (if d then 1 else 0) h ((5, x) :: r) = (decide (x = 0) && (q && (d && decide (h = [])))) := by
  cases d
  · rw [tw_none (by rw [if_neg (by decide), st5, if_neg (fun a => absurd a.1 (by decide))])]
    simp
  · rw [if_pos rfl]
    by_cases h1 : x = 0
    · by_cases h2 : h = []
      · rw [tw_some (p := 1) (q := 2) (g := h) (by rw [st5, if_pos ⟨rfl, h1, h2⟩]), tw_two, hq, decide_eq_true h1, decide_eq_true h2]
        simp
      · rw [tw_none (by rw [st5, if_neg (fun a => h2 a.2.2)]), decide_eq_false h2]
        simp
    · rw [tw_none (by rw [st5, if_neg (fun a => h1 a.2.1)]), decide_eq_false h1]
      simp
set_option maxRecDepth 100000 in
set_option maxHeartbeats 4000000 in
theorem rtwo_any (v : Value) (l : List (Int × Int)) (w : World) (hv : KD.IsL w w.heap.size v l) (hl : l.length ≤ 900) :
    Calls Try.prog 35 #[v] w fun e w' => e = .returned (.bool (twV l)) ∧ Below w.heap.size w w' := by
  have HV := Lib.hid hv
  obtain ⟨A, c, rfl, hc⟩ := hv.shape
  have hl2 := hv.2.2
  have hS : twV l = tw 0 [] l := rfl
  rw [hS]
  clear hS hv
  obtain ⟨z, hz⟩ : ∃ z, tw 0 [] l = z := ⟨_, rfl⟩
  rw [hz]
  have HZ0 := Lib.hid hz
  clear hz
  go_enter Try.func35, Try.ntmps35
  go_wp2
  go_loopg [3, 4, 5, 6] l.length (fun gh u dn fr i wr => ∃ (k : Nat) (h : List Int) (d f : Bool), k ≤ l.length ∧ gh = l.length - k ∧ i = .int .i64 k ∧ dn = .bool d ∧ fr = .bool f ∧ (f = true → d = true) ∧ (d = false → KI.Own wr w.heap.size u h) ∧ KI.IsL wr wr.heap.size u h ∧ Two.Inc h ∧ h.length ≤ k ∧ tw (if d then 1 else 0) h (l.drop k) = z ∧ Below w.heap.size w wr)
  case atStart => exact ⟨0, [], false, false, Nat.zero_le _, rfl, rfl, rfl, rfl, fun h => h, fun _ => Lk.Own.nil _ _, Lk.IsL.nil _ _ _ _, Two.inc_nil, Nat.le_refl _, HZ0.out, Below.refl _ _⟩
  case round =>
    obtain ⟨k, h, d, f, hk, rfl, rfl, rfl, rfl, hfd, hown, hil, hinc, hlen, htw, hbl⟩ := hrel
    have HFD := Lib.hid hfd
    have HO := Lib.hid hown
    have HI := Lib.hid hil
    have HN := Lib.hid hinc
    have HL := Lib.hid hlen
    have HTW := Lib.hid htw
    have HB := Lib.hid hbl
    obtain ⟨A3, c3, rfl, hc3⟩ := hil.shape
    clear hfd hown hil hinc hlen htw hbl
    by_cases hlt : k < l.length
    · rw [drop_snoc l k (0, 0) hlt] at HTW
      have HLD := Lib.hid (show (l.drop (k + 1) = []) ↔ (k : Int) = (l.length : Int) - 1 by rw [List.drop_eq_nil_iff]; omega)
      obtain ⟨b, off, rfl, hb, _, hcell⟩ := dd_cells (HV.out.then HB.out) (by omega)
      obtain ⟨e0, e1⟩ := hcell k hlt
      have HF := Lib.hid ((HV.out.2.1 _ (getD_mem' l k (0, 0) hlt)).2)
      clear hcell
      generalize l.getD k (0, 0) = p at *
      obtain ⟨r, hr⟩ : ∃ r, l.drop (k + 1) = r := ⟨_, rfl⟩
      have HRR := Lib.hid hr
      rw [hr] at HTW HLD
      clear hr
      obtain ⟨p1, p2⟩ := p
      simp only at e0 e1 HF
      have HIN := Lib.hid (fun w' hx => Two.in_any (.slice A3 h.length c3) h p2 w' (two_of hx))
      have HLS := Lib.hid (fun u w' hx hy => Two.rless_any (.slice A3 h.length c3) u h [p2] w' hx hy (by have := HL.out; omega))
      by_cases h1 : p1 = 1
      · subst h1
        rw [show tw (if d = true then 1 else 0) h ((1, p2) :: r) = tw (if d = true then 1 else 0) h ((1, p2) :: r) from rfl] at HTW
        cases d
        · obtain rfl : f = false := by cases f; rfl; exact absurd (HFD.out rfl) Bool.false_ne_true
          by_cases hh : h = []
          · subst hh
            have HT2 := Lib.hid (show tw 0 ([] ++ [p2]) r = z by rw [← tw_some (p := 0) (h := []) (d := (1, p2)) (by rw [st1, if_pos ⟨rfl, rfl⟩])]; exact HTW.out)
            simp only [List.length_nil] at HO HI HIN HLS hc3 ⊢
            go_wp2_with fail
            go_quiet (fail)
            have hbq := below_drewN (Below.al (Below.refl wr.heap.size wr) (.cells #[.int .i64 1, .int .i64 p2] 48)) nq
            have HC1 := Lib.hid (show (World.drewN (wr.alloc (.cells #[.int .i64 1, .int .i64 p2] 48)) nq).cell? ⟨wr.heap.size, 1, none⟩ = some (.int .i64 p2) by show (wr.alloc _).cell? _ = _; simp [go_sem])
            generalize World.drewN (wr.alloc (.cells #[.int .i64 1, .int .i64 p2] 48)) nq = W at *
            have HOW := Lib.hid ((HO.out trivial).below hbq)
            have HBW := Lib.hid (Below.call HB.out hbq)
            clear hbq
            go_upto_region 12 with fail
            have hc1 := HC1.out
            generalize Value.slice A3 0 c3 = v3 at *
            go_wp2_with (at_builtin; refine Lk.wpList_app (K := KI) _ rfl _ _ rfl rfl w.heap.size (W.heap.size + 1) _ _ [] [p2] rfl rfl (HOW.out.alloc _) (Lk.IsL.lit (K := KI) _ p2 _ HF.out rfl W.heap.size rfl) ?c1 ?c2 ?_)
            case c1 => simp
            case c2 => have := HBW.out.size; simp; omega
            intro v1 w4 hown hgrow _
            have HB4 := Lib.hid (Lk.Own.grow' (HOW.out.alloc _) (Below.al HBW.out _) (by have := HBW.out.size; simp; omega) hgrow)
            have HO4 := Lib.hid hown
            clear hown hgrow
            go_wp2
            go_roundg (l.length - (k + 1))
            case measure => omega
            case rel => exact ⟨k + 1, [] ++ [p2], false, false, by omega, rfl, num_i (by omega), rfl, rfl, fun h => h, fun _ => HO4.out, HO4.out.isL (by simp), by simp [Two.Inc], by simp, by rw [HRR.out]; exact HT2.out, HB4.out⟩
          · obtain ⟨g, y, rfl⟩ : ∃ g y, h = g ++ [y] := ⟨h.dropLast, h.getLast hh, (List.dropLast_concat_getLast hh).symm⟩
            have HGL := Lib.hid (show (g ++ [y]).length = g.length + 1 by simp)
            have hcy : (wr.alloc (.cells #[.int .i64 1, .int .i64 p2] 48)).cell? ⟨0, 0, none⟩ = (wr.alloc (.cells #[.int .i64 1, .int .i64 p2] 48)).cell? ⟨0, 0, none⟩ := rfl
            obtain ⟨b3, off3, cap3, hs3, _, hb3, _, hcell3, _⟩ := KI.cells HI.out (by rw [HGL.out]; omega)
            simp only [Value.slice.injEq] at hs3
            obtain ⟨rfl, -, rfl⟩ := hs3
            have e2 := hcell3 g.length (by rw [HGL.out]; omega)
            rw [show (g ++ [y]).getD g.length 0 = y by simp] at e2
            rw [HGL.out] at hc3 HO HI HIN HLS ⊢
            have hwg : IntKind.i64.wrap (g.length : Int) = g.length := wrap_fits _ (by have := HL.out; rw [HGL.out] at this; unfold fits; omega)
            clear hcell3 hcy hh
            by_cases hyp : y < p2
            · have ha : (g ++ [y]).all (fun z => decide (z < p2)) = true := by
                rw [List.all_eq_true]
                intro x hx
                have := (Two.inc_append.1 HN.out).2.2
                rcases List.mem_append.1 hx with hx | hx
                · exact decide_eq_true (Int.lt_trans (this x hx y (by simp)) hyp)
                · rw [List.mem_singleton] at hx
                  rw [hx]
                  exact decide_eq_true hyp
              have HT2 := Lib.hid (show tw 0 (g ++ [y] ++ [p2]) r = z by
                rw [← tw_some (p := 0) (h := g ++ [y]) (d := (1, p2)) (by rw [st1, if_pos ⟨rfl, ha⟩])]
                exact HTW.out)
              clear ha
              have HN2 := Lib.hid (show Two.Inc (g ++ [y] ++ [p2]) from Two.inc_snoc HN.out fun x hx => by
                have := (Two.inc_append.1 HN.out).2.2
                rcases List.mem_append.1 hx with hx | hx
                · have := this x hx y (by simp); omega
                · rw [List.mem_singleton] at hx; omega)
              have HL2 := Lib.hid (show (g ++ [y]).length = g.length + 1 by simp)
              generalize g ++ [y] = q at *
              go_wp2_with fail
              go_quiet (fail)
              have hbq := below_drewN (Below.al (Below.refl wr.heap.size wr) (.cells #[.int .i64 1, .int .i64 p2] 48)) nq
              have HC1 := Lib.hid (show (World.drewN (wr.alloc (.cells #[.int .i64 1, .int .i64 p2] 48)) nq).cell? ⟨wr.heap.size, 1, none⟩ = some (.int .i64 p2) by show (wr.alloc _).cell? _ = _; simp [go_sem])
              generalize World.drewN (wr.alloc (.cells #[.int .i64 1, .int .i64 p2] 48)) nq = W at *
              have HOW := Lib.hid ((HO.out trivial).below hbq)
              have HBW := Lib.hid (Below.call HB.out hbq)
              clear hbq
              go_upto_region 12 with fail
              have hc1 := HC1.out
              generalize Value.slice (some ⟨b3, off3, none⟩) (g.length + 1) c3 = v3 at *
              go_wp2_with (at_builtin; refine Lk.wpList_app (K := KI) _ rfl _ _ rfl rfl w.heap.size (W.heap.size + 1) _ _ q [p2] rfl rfl (HOW.out.alloc _) (Lk.IsL.lit (K := KI) _ p2 _ HF.out rfl W.heap.size rfl) ?c1 ?c2 ?_)
              case c1 => have := HL.out; simp; omega
              case c2 => have := HBW.out.size; simp; omega
              intro v1 w4 hown hgrow _
              have HB4 := Lib.hid (Lk.Own.grow' (HOW.out.alloc _) (Below.al HBW.out _) (by have := HBW.out.size; simp; omega) hgrow)
              have HO4 := Lib.hid hown
              clear hown hgrow
              go_wp2
              go_roundg (l.length - (k + 1))
              case measure => omega
              case rel => exact ⟨k + 1, q ++ [p2], false, false, by omega, rfl, num_i (by omega), rfl, rfl, fun h => h, fun _ => HO4.out, HO4.out.isL (by have := HL.out; simp; omega), HN2.out, by have := HL.out; simp; omega, by rw [HRR.out]; exact HT2.out, HB4.out⟩
            · have HE := Lib.hid (show z = false by
                rw [← HTW.out]
                refine tw_none ?_
                show stS 0 _ _ = none
                rw [st1, if_neg]
                rintro ⟨_, ha⟩
                rw [List.all_eq_true] at ha
                exact hyp (of_decide_eq_true (ha y (by simp))))
              have hyp2 : p2 ≤ y := by omega
              clear hyp
              go_wp2_with fail
              go_quiet (fail)
              go_wp2
              go_ret
              exact ⟨ret_b HE.out.symm, below_drewN (Below.al HB.out _) _⟩
        · have HE := Lib.hid (show z = false by
            rw [← HTW.out]
            exact tw_none (by rw [if_pos rfl, st1, if_neg (by omega)]))
          go_wp2_with fail
          go_quiet (fail)
          go_wp2
          go_ret
          exact ⟨ret_b HE.out.symm, below_drewN (Below.al HB.out _) _⟩
      have hq1 : (p1 == 1) = false := by rw [beq_eq_false_iff_ne]; exact h1
      by_cases h2 : p1 = 2
      · subst h2
        clear hq1 h1
        cases d
        · by_cases hin : p2 ∈ h
          · have HT2 := Lib.hid (show tw 0 h r = z by rw [← tw_some (p := 0) (h := h) (d := (2, p2)) (by rw [st2, if_pos ⟨rfl, hin⟩])]; exact HTW.out)
            have HD := Lib.hid (decide_eq_true hin)
            clear hin
            go_wp2_with fail
            refine (HIN.out _ (HI.out.then (Below.al (Below.refl _ _) _))).mono ?_
            rintro e w2 ⟨rfl, rfl⟩
            rw [HD.out]
            go_wp2
            go_roundg (l.length - (k + 1))
            case measure => omega
            case rel => exact ⟨k + 1, h, false, f, by omega, rfl, num_i (by omega), rfl, rfl, HFD.out, fun _ => (HO.out trivial).alloc _, HI.out.then (Below.al (Below.refl _ _) _), HN.out, by have := HL.out; omega, by rw [HRR.out]; exact HT2.out, Below.al HB.out _⟩
          · have HE := Lib.hid (show z = false by rw [← HTW.out]; exact tw_none (by show stS 0 _ _ = none; rw [st2, if_neg (fun a => hin a.2)]))
            have HD := Lib.hid (decide_eq_false hin)
            clear hin
            go_wp2_with fail
            refine (HIN.out _ (HI.out.then (Below.al (Below.refl _ _) _))).mono ?_
            rintro e w2 ⟨rfl, rfl⟩
            rw [HD.out]
            go_wp2
            go_ret
            exact ⟨ret_b HE.out.symm, Below.al HB.out _⟩
        · have HE := Lib.hid (show z = false by rw [← HTW.out]; exact tw_none (by show stS 1 _ _ = none; rw [st2, if_neg (fun a => absurd a.1 (by decide))]))
          go_wp2
          go_ret
          exact ⟨ret_b HE.out.symm, Below.al HB.out _⟩
      have hq2 : (p1 == 2) = false := by rw [beq_eq_false_iff_ne]; exact h2
      by_cases h3 : p1 = 3
      · subst h3
        clear hq1 hq2 h1 h2
        cases d
        · by_cases hz : p2 = 0
          · subst hz
            have HT2 := Lib.hid (show tw 1 h r = z by rw [← tw_some (p := 0) (h := h) (d := (3, 0)) (by rw [st3, if_pos ⟨rfl, rfl⟩])]; exact HTW.out)
            go_wp2
            go_roundg (l.length - (k + 1))
            case measure => omega
            case rel => exact ⟨k + 1, h, true, f, by omega, rfl, num_i (by omega), rfl, rfl, fun _ => rfl, fun h => absurd h (by decide), HI.out.then (Below.al (Below.refl _ _) _), HN.out, by have := HL.out; omega, by rw [HRR.out]; exact HT2.out, Below.al HB.out _⟩
          · have HE := Lib.hid (show z = false by rw [← HTW.out]; exact tw_none (by show stS 0 _ _ = none; rw [st3, if_neg (fun a => hz a.2)]))
            have hqz : (p2 == 0) = false := by rw [beq_eq_false_iff_ne]; exact hz
            clear hz
            go_wp2
            go_ret
            exact ⟨ret_b HE.out.symm, Below.al HB.out _⟩
        · have HE := Lib.hid (show z = false by rw [← HTW.out]; exact tw_none (by show stS 1 _ _ = none; rw [st3, if_neg (fun a => absurd a.1 (by decide))]))
          go_wp2
          go_ret
          exact ⟨ret_b HE.out.symm, Below.al HB.out _⟩
      have hq3 : (p1 == 3) = false := by rw [beq_eq_false_iff_ne]; exact h3
      by_cases h4 : p1 = 4
      · subst h4
        clear hq1 hq2 hq3 h1 h2 h3
        cases d
        · have HE := Lib.hid (show z = false by rw [← HTW.out]; exact tw_none (by show stS 0 _ _ = none; rw [st4, if_neg (fun a => absurd a.1 (by decide))]))
          go_wp2
          go_ret
          exact ⟨ret_b HE.out.symm, Below.al HB.out _⟩
        · by_cases hin : p2 ∈ h
          · have HT2 := Lib.hid (show tw 1 (h.filter fun y => !decide (y ∈ [p2])) r = z by rw [← tw_some (p := 1) (h := h) (d := (4, p2)) (by rw [st4, if_pos ⟨rfl, hin⟩])]; exact HTW.out)
            have HD := Lib.hid (decide_eq_true hin)
            have HN2 := Lib.hid (Two.inc_filter (fun y => !decide (y ∈ [p2])) HN.out)
            have HL2 := Lib.hid (List.length_filter_le (fun y => !decide (y ∈ [p2])) h)
            clear hin
            go_wp2_with fail
            refine (HIN.out _ (HI.out.then (Below.al (Below.refl _ _) _))).mono ?_
            rintro e w2 ⟨rfl, rfl⟩
            rw [HD.out]
            go_wp2_with fail
            refine (HLS.out _ _ (two_of (HI.out.then (Below.al (Below.al (Below.refl _ _) _) _))) (two_of (Lk.IsL.lit (K := KI) _ p2 _ HF.out rfl (wr.heap.size + 1) (by simp) |>.more (by simp)))).mono ?_
            rintro e w2 ⟨v2, rfl, hil, hb2⟩
            have HB2 := Lib.hid (Below.call (Below.al (Below.al HB.out _) _) hb2)
            have HI2 := Lib.hid (of_two hil)
            clear hil hb2
            go_wp2
            go_roundg (l.length - (k + 1))
            case measure => omega
            case rel => exact ⟨k + 1, _, true, true, by omega, rfl, num_i (by omega), rfl, rfl, fun _ => rfl, fun h => absurd h (by decide), HI2.out, HN2.out, by have := HL.out; have := HL2.out; omega, by rw [HRR.out]; exact HT2.out, HB2.out⟩
          · have HE := Lib.hid (show z = false by rw [← HTW.out]; exact tw_none (by show stS 1 _ _ = none; rw [st4, if_neg (fun a => hin a.2)]))
            have HD := Lib.hid (decide_eq_false hin)
            clear hin
            go_wp2_with fail
            refine (HIN.out _ (HI.out.then (Below.al (Below.refl _ _) _))).mono ?_
            rintro e w2 ⟨rfl, rfl⟩
            rw [HD.out]
            go_wp2
            go_ret
            exact ⟨ret_b HE.out.symm, Below.al HB.out _⟩
      have hq4 : (p1 == 4) = false := by rw [beq_eq_false_iff_ne]; exact h4
      by_cases h5 : p1 = 5
      · subst h5
        clear hq1 hq2 hq3 hq4 h1 h2 h3 h4
        rw [tw5 d h p2 r _ (decide_eq_decide.2 HLD.out)] at HTW
        by_cases hz : p2 = 0
        · subst hz
          by_cases hkk : (k : Int) = (l.length : Int) - 1
          · cases d
            · have HE := Lib.hid (show z = false by rw [← HTW.out]; simp)
              have hbk : ((k : Int) == (l.length : Int) - 1) = true := by rw [beq_iff_eq]; exact hkk
              clear hkk
              go_wp2
              go_ret
              exact ⟨ret_b HE.out.symm, Below.al HB.out _⟩
            · have hbk : ((k : Int) == (l.length : Int) - 1) = true := by rw [beq_iff_eq]; exact hkk
              by_cases hh : h = []
              · have HE := Lib.hid (show z = true by rw [← HTW.out, decide_eq_true hkk, decide_eq_true hh]; rfl)
                subst hh
                simp only [List.length_nil]
                clear hkk
                go_wp2
                go_ret
                exact ⟨ret_b HE.out.symm, Below.al HB.out _⟩
              · have HE := Lib.hid (show z = false by rw [← HTW.out, decide_eq_false hh]; simp)
                have hbl : ((h.length : Int) == 0) = false := by
                  rw [beq_eq_false_iff_ne]
                  intro e
                  exact hh (List.eq_nil_of_length_eq_zero (by omega))
                clear hkk hh
                go_wp2
                go_ret
                exact ⟨ret_b HE.out.symm, Below.al HB.out _⟩
          · have HE := Lib.hid (show z = false by rw [← HTW.out, decide_eq_false hkk]; simp)
            have hbk : ((k : Int) == (l.length : Int) - 1) = false := by rw [beq_eq_false_iff_ne]; exact hkk
            clear hkk
            go_wp2
            go_ret
            exact ⟨ret_b HE.out.symm, Below.al HB.out _⟩
        · have HE := Lib.hid (show z = false by rw [← HTW.out, decide_eq_false hz]; rfl)
          have hbz : (p2 == 0) = false := by rw [beq_eq_false_iff_ne]; exact hz
          clear hz
          go_wp2
          go_ret
          exact ⟨ret_b HE.out.symm, Below.al HB.out _⟩
      · have HE := Lib.hid (show z = false by rw [← HTW.out]; exact tw_none (st0 _ _ _ _ h1 h2 h3 h4 h5))
        have hq5 : (p1 == 5) = false := by rw [beq_eq_false_iff_ne]; exact h5
        clear h1 h2 h3 h4 h5
        go_wp2
        go_ret
        exact ⟨ret_b HE.out.symm, Below.al HB.out _⟩
    · obtain rfl : k = l.length := by omega
      rw [List.drop_length] at HTW
      have HE := Lib.hid (show z = false by rw [← HTW.out]; cases d <;> rfl)
      go_wp2
      go_ret
      exact ⟨ret_b HE.out.symm, HB.out⟩
end Go.Proofs.Ytbflkdkbfidleaa
