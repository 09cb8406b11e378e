/- Plans: the law PlanBack. -/
import Derived.Test.YtbflkdkbfidleaaVV
namespace Go.Proofs.Ytbflkdkbfidleaa
open Go.RowKit
set_option maxRecDepth 100000 in
set_option maxHeartbeats 4000000 in

theorem planBack_t (v : Value) (l : List Int) (k : Int) (w : World) (hv : KI.IsL w w.heap.size v l) :
    Calls Try.prog 10 #[v, .bool true, .int .i64 k] w fun e w' => e = .returned (.bool true) ∧ Below w.heap.size w w' := by
  have LV := Lib.hid hv
  obtain ⟨A, c, rfl, hc⟩ := hv.shape
  clear hv
  have HLV := Lib.hid (fun w => lives18 w)
  by_cases h1 : l.length > 200
  · go_enter Try.func10, Try.ntmps10
    go_wp2_with fail
    refine (HLV.out _).mono ?_
    rintro e w1 ⟨rfl, hb1⟩
    go_wp2
    go_ret
    exact ⟨rfl, hb1⟩
  have HF := Lib.hid (fun v w h1 h2 => Two.rfrom_any v l w h1 h2)
  have hi := Two.inc_mk l
  have hn := Two.mk_len_le l
  generalize Two.mk l = ids at *
  have HN := Lib.hid (show ids.length ≤ 200 by omega)
  clear hn
  by_cases hk0 : k < 0
  · go_enter Try.func10, Try.ntmps10
    go_wp2_with fail
    refine (HF.out _ _ (two_of LV.out) (by omega)).mono ?_
    rintro e k1 ⟨vI, rfl, hi1, hb1⟩
    obtain ⟨AI, cI, rfl, hcI⟩ := (of_two hi1).shape
    clear hi1
    go_wp2_with fail
    refine (HLV.out _).mono ?_
    rintro e k3 ⟨rfl, hb3⟩
    go_wp2
    go_ret
    exact ⟨rfl, Below.call hb1 hb3⟩
  obtain ⟨k, rfl⟩ := Int.eq_ofNat_of_zero_le (show 0 ≤ k by omega)
  by_cases hk1 : ids.length < k
  · go_enter Try.func10, Try.ntmps10
    go_wp2_with fail
    refine (HF.out _ _ (two_of LV.out) (by omega)).mono ?_
    rintro e k1 ⟨vI, rfl, hi1, hb1⟩
    obtain ⟨AI, cI, rfl, hcI⟩ := (of_two hi1).shape
    clear hi1
    go_wp2_with fail
    refine (HLV.out _).mono ?_
    rintro e k3 ⟨rfl, hb3⟩
    go_wp2
    go_ret
    exact ⟨rfl, Below.call hb1 hb3⟩
  have hkl : k ≤ ids.length := by omega
  have hN := HN.out
  have HM := Lib.hid (fun v w h1 h2 => make_any v ids true w h1 h2)
  have HBK := Lib.hid (fun v w h1 h2 => back_any v ids k w h1 h2)
  have hnn : ((nV k true : Nat) : Int) = 2 * (k : Int) := by simp [nV]
  have HH0 := fun v w h1 h2 => holds_any v (mkV ids true) ((nV k true : Nat) : Int) w h1 h2
  simp only [hlV_n ids true hi k hkl] at HH0
  simp only [hnn] at HH0
  have HHN := Lib.hid HH0
  clear HH0
  have HLM := Lib.hid (show (mkV ids true).length ≤ 602 by have := mkV_len ids true; omega)
  have hnm := nV_le ids true hi k hkl
  have HBL := Lib.hid (bkV_klen ids hi k hkl)
  have HZ0 := fun v w h1 h2 => holds_any v (alV ids true k) (alV ids true k).length w h1 h2
  simp only [alV_none ids true hi k hkl] at HZ0
  have HZ := Lib.hid HZ0
  clear HZ0
  have HH := Lib.hid (fun v x w h1 h2 => holds_any v (alV ids true k) x w h1 h2)
  have HFR0 := fun i hb h4 => alV_free ids true hi k hkl i hb h4
  simp only [Int.natCast_add, hnn] at HFR0
  have HFR := Lib.hid HFR0
  clear HFR0
  have hq : (mkV ids true).take (nV k true) ++ bkV ids k = alV ids true k := rfl
  generalize alV ids true k = q at *
  generalize mkV ids true = m at *
  generalize bkV ids k = bb at *
  generalize nV k true = n at *
  have HQ := Lib.hid hq
  clear hq hi
  have HQL := Lib.hid (show q.length ≤ 900 by rw [← HQ.out, List.length_append, List.length_take]; have := HBL.out; have := HLM.out; omega)
  go_enter Try.func10, Try.ntmps10
  go_wp2_with fail
  refine (HF.out _ _ (two_of LV.out) (by omega)).mono ?_
  rintro e k1 ⟨vI, rfl, hi1, hb1⟩
  have LI := Lib.hid (of_two hi1)
  have HB1 := Lib.hid hb1
  clear hi1 hb1 HF LV
  obtain ⟨vS, hrunS, hilS⟩ := Two.IsL.to_ (two_of LI.out) k hkl
  have LS := Lib.hid (of_two hilS)
  clear hilS
  obtain ⟨AI, cI, rfl, hcI⟩ := LI.out.shape
  go_wp2_with fail
  refine (HM.out _ _ LI.out (by have := HN.out; omega)).mono ?_
  rintro e k2 ⟨vP, rfl, ho2, hb2⟩
  have LI := Lib.hid (LI.out.then hb2)
  have LS := Lib.hid (LS.out.then hb2)
  have LP := Lib.hid (ho2.isL (by have := HLM.out; omega))
  have HB2 := Lib.hid (Below.call HB1.out hb2)
  clear ho2 hb2 HM HB1
  obtain ⟨vT, hrunT, hilT⟩ := KD.to_ LP.out n hnm
  rw [hnn] at hrunT
  have LT := Lib.hid hilT
  clear hilT
  obtain ⟨AP, cP, rfl, hcP⟩ := LP.out.shape
  go_wp2_with fail
  refine (HBK.out _ _ LI.out (by have := HN.out; omega)).mono ?_
  rintro e k3 ⟨vB, rfl, ho3, hb3⟩
  have LI := Lib.hid (LI.out.then hb3)
  have LS := Lib.hid (LS.out.then hb3)
  have LP := Lib.hid (LP.out.then hb3)
  have LT := Lib.hid (LT.out.then hb3)
  have LB := Lib.hid (ho3.isL (by have := HBL.out; omega))
  have HB3 := Lib.hid (Below.call HB2.out hb3)
  clear ho3 hb3 HBK HB2
  obtain ⟨AB, cB, rfl, hcB⟩ := LB.out.shape
  have hml := HLM.out
  rw [HBL.out] at hcB LB ⊢
  have hwr : IntKind.i64.wrap ((k : Int) + 1) = (k : Int) + 1 := by rw [IntKind.wrap_i64]; omega
  have hdm : decide ((m.length : Int) < 2 * (k : Int)) = false := decide_eq_false (by omega)
  have hdn : decide (m.length < 2 * k) = false := decide_eq_false (by omega)
  go_wp2_with fail
  go_region_held3 (fun w' => Below k3.heap.size k3 w')
    (first | exact (Below.refl _ _).drew | assumption | exact Below.call (by assumption) hbc | exact below_drewN (by assumption) _)
    (first
      | (go_at_call 26; ((with_reducible refine (HLV.out _).mono ?_); rintro e w5 ⟨rfl, hbc⟩))
      | (go_at_call 36; ((with_reducible refine (HHN.out _ _ (LP.out.then (by assumption)) (by omega)).mono ?_); rintro e w6 ⟨vH, rfl, hil, hbc⟩))
      | (go_at_call 16; ((with_reducible refine (Two.same_any _ _ (ids.take k) (ids.take k) _ (two_of hil) (two_of (LS.out.then (by assumption)))).mono ?_); rintro e wq ⟨rfl, dq, rfl⟩; simp only [decide_true])))
  rename_i hHeld
  have LP := Lib.hid (LP.out.then hHeld)
  have LT := Lib.hid (LT.out.then hHeld)
  have LB := Lib.hid (LB.out.then hHeld)
  have HB7 := Lib.hid (Below.call HB3.out hHeld)
  clear hHeld hil hbc hwr LI LS HB3 HHN HLV
  generalize w6.drewN dq = k7 at *
  have hbbl := HBL.out
  have htl : (m.take n).length ≤ 602 := by rw [List.length_take]; omega
  go_wp2_with (at_builtin; refine Lk.wpList_app (K := KD) _ rfl _ _ rfl rfl k7.heap.size k7.heap.size _ _ [] (m.take n) rfl rfl (Lk.Own.made k7 k7.heap.size 0 #[] (Nat.le_refl _) (by unfold maxLen; omega) rfl) (LT.out.below (Below.al (Below.refl _ k7) _)) ?c1 ?c2 ?_)
  case c1 => rw [List.length_nil]; omega
  case c2 => simp
  intro vC w8 hown hgrow _
  have HB8 := Lib.hid (Lk.Own.grow' (K := KD) (Lk.Own.made k7 k7.heap.size 0 #[] (Nat.le_refl _) (by unfold maxLen; omega) rfl) (Below.al (Below.refl _ k7) _) (by simp) hgrow)
  have HC8 := Lib.hid (show KD.Own w8 k7.heap.size vC (m.take n) by simpa using hown)
  clear hown hgrow
  go_wp2_with (at_builtin; refine Lk.wpList_app (K := KD) _ rfl _ _ rfl rfl k7.heap.size w8.heap.size _ _ (m.take n) bb rfl rfl HC8.out (LB.out.then HB8.out) ?c1 ?c2 ?_)
  case c1 => omega
  case c2 => exact HB8.out.size
  intro vD w9 hown hgrow _
  have HB9 := Lib.hid (Lk.Own.grow' (K := KD) HC8.out HB8.out HB8.out.size hgrow)
  rw [HQ.out] at hown
  have LQ := Lib.hid (hown.isL (by have := HQL.out; omega))
  have LB := Lib.hid (LB.out.then HB9.out)
  have HB10 := Lib.hid (Below.call HB7.out HB9.out)
  clear hown hgrow HB8 HC8 HB7 HB9 LT LP
  obtain ⟨AQ, cQ, rfl, hcQ⟩ := LQ.out.shape
  have hql := HQL.out
  go_wp2
  go_loopg [12] (k + 1) (fun gh i wr => ∃ j : Nat, j ≤ k + 1 ∧ gh = k + 1 - j ∧ i = .int .i64 j ∧ Below w9.heap.size w9 wr)
  case atStart => exact ⟨0, Nat.zero_le _, rfl, rfl, Below.refl _ _⟩
  case round =>
    obtain ⟨j, hj, rfl, rfl, hbl⟩ := hrel
    have HB := Lib.hid hbl
    clear hbl
    have LQ := Lib.hid (LQ.out.then HB.out)
    have LB := Lib.hid (LB.out.then HB.out)
    by_cases hlt : j < k + 1
    · obtain ⟨b, off, rfl, hb, _, hcell⟩ := dd_cells LB.out (by omega)
      obtain ⟨e0, e1⟩ := hcell j (by omega)
      have HFj := Lib.hid (HFR.out j (by omega))
      clear hcell
      generalize bb.getD j (0, 0) = d at *
      obtain ⟨d1, d2⟩ := d
      simp only at e0 e1 HFj
      by_cases h4 : d1 = 4
      · subst h4
        have hmem := HFj.out rfl
        have HHj := Lib.hid (fun v w h1 h2 => HH.out v (2 * (k : Int) + (j : Int)) w h1 h2)
        generalize hlV q (2 * (k : Int) + (j : Int)) = hL at *
        have HI0 := fun v w h => Two.in_any v hL d2 w h
        simp only [decide_eq_true hmem] at HI0
        have HI := Lib.hid HI0
        clear HI0
        have hwn : IntKind.i64.wrap (2 * (k : Int) + (j : Int)) = 2 * (k : Int) + (j : Int) := by rw [IntKind.wrap_i64]; omega
        go_wp2_with fail
        go_region_held3 (fun w' => w'.cell? ⟨b, off + j * 2, none⟩ = some (.int .i64 4) ∧ w'.cell? ⟨b, off + j * 2 + 1, none⟩ = some (.int .i64 d2) ∧ Below wr.heap.size wr w')
          (first | exact ⟨e0, e1, (Below.refl _ _).drew⟩ | assumption | go_keep | (go_split_ands; exact ⟨keep_cell hbc (by assumption), keep_cell hbc (by assumption), Below.call (by assumption) hbc⟩))
          (first
            | (go_at_call 36; ((with_reducible refine (HHj.out _ _ (LQ.out.then (by go_split_ands; assumption)) hql).mono ?_); rintro e w4 ⟨vH, rfl, hil, hbc⟩))
            | (go_at_call 39; ((with_reducible refine (HI.out _ _ (two_of hil)).mono ?_); rintro e wq ⟨rfl, rfl⟩)))
        rename_i hHeld
        obtain ⟨_, _, hb4⟩ := hHeld
        have HB4 := Lib.hid (Below.call HB.out hb4)
        clear hb4 hil hbc
        go_wp2
        go_roundg (k + 1 - (j + 1))
        case measure => omega
        case rel => exact ⟨j + 1, by omega, rfl, num_i (by omega), HB4.out⟩
      · go_wp2_with fail
        go_quiet (fail)
        go_wp2
        go_roundg (k + 1 - (j + 1))
        case measure => omega
        case rel => exact ⟨j + 1, by omega, rfl, num_i (by omega), by first | exact HB.out | exact below_drewN HB.out _⟩
    · obtain rfl : j = k + 1 := by omega
      go_wp2_with fail
      refine (HZ.out _ _ LQ.out hql).mono ?_
      rintro e w2 ⟨vH, rfl, hil, hb2⟩
      obtain ⟨AH, cH, rfl, hcH⟩ := hil.shape
      have HB5 := Lib.hid (Below.call HB10.out (Below.call HB.out hb2))
      clear hil hb2
      go_wp2
      go_ret
      exact ⟨rfl, HB5.out⟩

theorem planBack_walk (v : Value) (l : List Int) (b : Bool) (k : Int) (w : World) (hv : KI.IsL w w.heap.size v l) :
    Calls Try.prog 10 #[v, .bool b, .int .i64 k] w fun e w' => e = .returned (.bool true) ∧ Below w.heap.size w w' := by
  cases b
  · exact planBack_f v l k w hv
  · exact planBack_t v l k w hv
end Go.Proofs.Ytbflkdkbfidleaa
