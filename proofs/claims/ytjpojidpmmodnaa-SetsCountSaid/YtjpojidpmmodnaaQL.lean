/- The law on how many are in two sets together. -/
import Derived.Test.YtjpojidpmmodnaaQJ
import Derived.Test.YtjpojidpmmodnaaQK
namespace Go.Proofs.Ytjpojidpmmodnaa
open Go.RowKit

theorem bothL_any (v u : Value) (xs ys : List Int) (w : World) (h : IsL w w.heap.size v xs) (hy : IsL w w.heap.size u ys) (hl : xs.length + ys.length ≤ 1000) (hix : Inc xs) (hiy : Inc ys) :
    Calls Try.prog 42 #[v, u] w fun e w' => ∃ v, e = .returned v ∧ IsL w' w'.heap.size v (bothL xs ys) ∧ Below w.heap.size w w' := both_any v u xs ys w h hy hl hix hiy
theorem lessL_any (v u : Value) (xs ys r : List Int) (w : World) (h : IsL w w.heap.size v xs) (hy : IsL w w.heap.size u ys) (hl : xs.length + ys.length ≤ 1000) (hix : Inc xs) (hiy : Inc ys) (hr : lessL xs ys = r) :
    Calls Try.prog 44 #[v, u] w fun e w' => ∃ v, e = .returned v ∧ IsL w' w'.heap.size v r ∧ Below w.heap.size w w' := by
  have k := less_any v u xs ys w h hy hl hix hiy
  rw [← hr]
  exact k
theorem eitherL_any (v u : Value) (xs ys r : List Int) (w : World) (h : IsL w w.heap.size v xs) (hy : IsL w w.heap.size u ys) (hl : xs.length + ys.length ≤ 1000) (hix : Inc xs) (hiy : Inc ys) (hr : mk (xs ++ ys) = r) :
    Calls Try.prog 40 #[v, u] w fun e w' => ∃ v, e = .returned v ∧ IsL w' w'.heap.size v r ∧ Below w.heap.size w w' := by
  have k := either_any v u xs ys w h hy hl hix hiy
  rw [← hr]
  exact k
theorem apart_true (v u : Value) (xs ys : List Int) (w : World) (h : IsL w w.heap.size v xs) (hy : IsL w w.heap.size u ys) (hl : xs.length + ys.length ≤ 1000) (hix : Inc xs) (hiy : Inc ys) (hn : bothL xs ys = []) :
    Calls Try.prog 46 #[v, u] w fun e w' => e = .returned (.bool true) ∧ Below w.heap.size w w' := by
  have k := apart_any v u xs ys w h hy hl hix hiy
  rwa [decide_eq_true (show xs.filter (fun y => decide (y ∈ ys)) = [] from hn)] at k

/-- The lists that the law speaks of. -/
structure Cnt (a b x y la lb al : List Int) : Prop where
  ia : Inc a
  ib : Inc b
  ix : Inc x
  iy : Inc y
  ila : Inc la
  ilb : Inc lb
  ial : Inc al
  na : a.length ≤ 200
  nb : b.length ≤ 200
  nx : x.length ≤ 400
  ny : y.length ≤ 200
  nla : la.length ≤ 200
  nlb : lb.length ≤ 200
  nal : al.length ≤ 400
  len : x.length + y.length = a.length + b.length
  ex : mk (a ++ b) = x
  ey : bothL a b = y
  ela : lessL a b = la
  elb : lessL b a = lb
  eal : mk (la ++ lb) = al
  no : bothL al y = []
  e1 : mk (al ++ y) = x
  e2 : mk (b ++ a) = x
  e3 : lessL x al = y
theorem cnt_of (l m : List Int) (h1 : l.length ≤ 200) (h2 : m.length ≤ 200) : ∃ a b x y la lb al, a = mk l ∧ b = mk m ∧ Cnt a b x y la lb al := by
  have n1 := Nat.le_trans (mk_len_le l) h1
  have n2 := Nat.le_trans (mk_len_le m) h2
  have n3 := either_len (mk l) (mk m)
  have n4 := both_len (mk l) (mk m)
  have n5 := less_len (mk l) (mk m)
  have n6 := less_len (mk m) (mk l)
  have n7 := alone_len (mk l) (mk m)
  exact ⟨mk l, mk m, _, _, _, _, _, rfl, rfl, ⟨inc_mk _, inc_mk _, inc_mk _, inc_both _ (inc_mk _), inc_less _ (inc_mk _), inc_less _ (inc_mk _), inc_mk _, n1, n2, by omega, by omega, by omega, by omega, by unfold aloneL at n7; omega,
    count_len (inc_mk _) (inc_mk _), rfl, rfl, rfl, rfl, rfl, alone_both _ _, alone_either _ _, either_swap _ _, less_alone (inc_mk _)⟩⟩
theorem fromL_any (v : Value) (xs r : List Int) (w : World) (h : IsL w w.heap.size v xs) (hl : xs.length ≤ 1000) (hr : r = mk xs) :
    Calls Try.prog 31 #[v] w fun e w' => ∃ v, e = .returned v ∧ IsL w' w'.heap.size v r ∧ Below w.heap.size w w' := by
  rw [hr]
  exact from_any v xs w h hl

set_option maxHeartbeats 2000000 in
theorem setsCount_walk (v : Value) (xs : List Int) (u : Value) (ys : List Int) {w : World} (h : IsL w w.heap.size v xs) (hy : IsL w w.heap.size u ys) : Calls Try.prog 10 #[v, u] w fun e w' => e = .returned (.bool true) ∧ Below w.heap.size w w' := by
  have HV := Lib.hid h
  have HU := Lib.hid hy
  obtain ⟨A, cap, rfl⟩ := h.len_eq
  obtain ⟨A2, cap2, rfl⟩ := hy.len_eq
  have HB := Lib.hid (Below.refl w.heap.size w)
  clear h hy
  by_cases h200 : xs.length ≤ 200 ∧ ys.length ≤ 200
  · obtain ⟨h1, h2⟩ := h200
    obtain ⟨a, b, x, y, la, lb, al, hea, heb, hc⟩ := cnt_of xs ys h1 h2
    have HEA := Lib.hid hea
    have HEB := Lib.hid heb
    have HC := Lib.hid hc
    have b1 := hc.na
    have b2 := hc.nb
    have b3 := hc.nx
    have b4 := hc.ny
    have hq : ((x.length : Int) + (y.length : Int) != (a.length : Int) + (b.length : Int)) = false := by
      have := hc.len
      rw [bne_eq_false_iff_eq]
      omega
    clear hea heb hc
    go_enter Try.func10, Try.ntmps10
    go_wp2_with fail
    refine (fromL_any _ xs a _ HV.out (by omega) HEA.out).mono ?_
    rintro e w1 ⟨va, rfl, hnew, hb⟩
    replace HV := Lib.hid (HV.out.at hb)
    replace HU := Lib.hid (HU.out.at hb)
    replace HB := Lib.hid (HB.out.trans (hb.mono HB.out.size))
    clear hb
    have HA := Lib.hid hnew
    clear hnew
    go_wp2_with fail
    refine (fromL_any _ ys b _ HU.out (by omega) HEB.out).mono ?_
    rintro e w2 ⟨vb, rfl, hnew, hb⟩
    replace HV := Lib.hid (HV.out.at hb)
    replace HU := Lib.hid (HU.out.at hb)
    replace HA := Lib.hid (HA.out.at hb)
    replace HB := Lib.hid (HB.out.trans (hb.mono HB.out.size))
    clear hb
    have HB2 := Lib.hid hnew
    clear hnew
    go_wp2_with fail
    refine (eitherL_any _ _ a b x _ HA.out HB2.out (by have := HC.out.na; have := HC.out.nb; omega) HC.out.ia HC.out.ib HC.out.ex).mono ?_
    rintro e w3 ⟨vx, rfl, hnew, hb⟩
    replace HV := Lib.hid (HV.out.at hb)
    replace HU := Lib.hid (HU.out.at hb)
    replace HA := Lib.hid (HA.out.at hb)
    replace HB2 := Lib.hid (HB2.out.at hb)
    replace HB := Lib.hid (HB.out.trans (hb.mono HB.out.size))
    clear hb
    have HX := Lib.hid hnew
    clear hnew
    go_wp2_with fail
    refine ((HC.out.ey ▸ bothL_any _ _ a b _ HA.out HB2.out (by have := HC.out.na; have := HC.out.nb; omega) HC.out.ia HC.out.ib : Calls Try.prog 42 #[va, vb] w3 fun e w' => ∃ v, e = .returned v ∧ IsL w' w'.heap.size v y ∧ Below w3.heap.size w3 w')).mono ?_
    rintro e w4 ⟨vy, rfl, hnew, hb⟩
    replace HV := Lib.hid (HV.out.at hb)
    replace HU := Lib.hid (HU.out.at hb)
    replace HA := Lib.hid (HA.out.at hb)
    replace HB2 := Lib.hid (HB2.out.at hb)
    replace HX := Lib.hid (HX.out.at hb)
    replace HB := Lib.hid (HB.out.trans (hb.mono HB.out.size))
    clear hb
    have HY := Lib.hid hnew
    clear hnew
    obtain ⟨A3, cap3, rfl⟩ := HA.out.len_eq
    obtain ⟨A4, cap4, rfl⟩ := HB2.out.len_eq
    obtain ⟨A5, cap5, rfl⟩ := HX.out.len_eq
    obtain ⟨A6, cap6, rfl⟩ := HY.out.len_eq
    go_wp2_with fail
    refine (lives4 _).mono ?_
    rintro e w5 ⟨rfl, hb⟩
    replace HV := Lib.hid (HV.out.at hb)
    replace HU := Lib.hid (HU.out.at hb)
    replace HA := Lib.hid (HA.out.at hb)
    replace HB2 := Lib.hid (HB2.out.at hb)
    replace HX := Lib.hid (HX.out.at hb)
    replace HY := Lib.hid (HY.out.at hb)
    replace HB := Lib.hid (HB.out.trans (hb.mono HB.out.size))
    clear hb
    go_wp2_with fail
    refine (right_true _ x _ HX.out HC.out.ix).mono ?_
    rintro e w' ⟨rfl, d5, rfl⟩
    have hb := drew_below w5 d5
    replace HV := Lib.hid (HV.out.at hb)
    replace HU := Lib.hid (HU.out.at hb)
    replace HA := Lib.hid (HA.out.at hb)
    replace HB2 := Lib.hid (HB2.out.at hb)
    replace HX := Lib.hid (HX.out.at hb)
    replace HY := Lib.hid (HY.out.at hb)
    replace HB := Lib.hid (HB.out.trans (hb.mono HB.out.size))
    clear hb
    go_wp2_with fail
    refine (right_true _ y _ HY.out HC.out.iy).mono ?_
    rintro e w' ⟨rfl, d6, rfl⟩
    have hb := drew_below (w5.drewN (d5)) d6
    rw [World.drewN_drewN] at hb
    replace HV := Lib.hid (HV.out.at hb)
    replace HU := Lib.hid (HU.out.at hb)
    replace HA := Lib.hid (HA.out.at hb)
    replace HB2 := Lib.hid (HB2.out.at hb)
    replace HX := Lib.hid (HX.out.at hb)
    replace HY := Lib.hid (HY.out.at hb)
    replace HB := Lib.hid (HB.out.trans (hb.mono HB.out.size))
    clear hb
    go_wp2_with fail
    refine (lessL_any _ _ a b la _ HA.out HB2.out (by have := HC.out.na; have := HC.out.nb; omega) HC.out.ia HC.out.ib HC.out.ela).mono ?_
    rintro e w8 ⟨vla, rfl, hnew, hb⟩
    replace HV := Lib.hid (HV.out.at hb)
    replace HU := Lib.hid (HU.out.at hb)
    replace HA := Lib.hid (HA.out.at hb)
    replace HB2 := Lib.hid (HB2.out.at hb)
    replace HX := Lib.hid (HX.out.at hb)
    replace HY := Lib.hid (HY.out.at hb)
    replace HB := Lib.hid (HB.out.trans (hb.mono HB.out.size))
    clear hb
    have HLA := Lib.hid hnew
    clear hnew
    go_wp2_with fail
    refine (lessL_any _ _ b a lb _ HB2.out HA.out (by have := HC.out.na; have := HC.out.nb; omega) HC.out.ib HC.out.ia HC.out.elb).mono ?_
    rintro e w9 ⟨vlb, rfl, hnew, hb⟩
    replace HV := Lib.hid (HV.out.at hb)
    replace HU := Lib.hid (HU.out.at hb)
    replace HA := Lib.hid (HA.out.at hb)
    replace HB2 := Lib.hid (HB2.out.at hb)
    replace HX := Lib.hid (HX.out.at hb)
    replace HY := Lib.hid (HY.out.at hb)
    replace HLA := Lib.hid (HLA.out.at hb)
    replace HB := Lib.hid (HB.out.trans (hb.mono HB.out.size))
    clear hb
    have HLB := Lib.hid hnew
    clear hnew
    go_wp2_with fail
    refine (eitherL_any _ _ la lb al _ HLA.out HLB.out (by have := HC.out.nla; have := HC.out.nlb; omega) HC.out.ila HC.out.ilb HC.out.eal).mono ?_
    rintro e w10 ⟨val, rfl, hnew, hb⟩
    replace HV := Lib.hid (HV.out.at hb)
    replace HU := Lib.hid (HU.out.at hb)
    replace HA := Lib.hid (HA.out.at hb)
    replace HB2 := Lib.hid (HB2.out.at hb)
    replace HX := Lib.hid (HX.out.at hb)
    replace HY := Lib.hid (HY.out.at hb)
    replace HLA := Lib.hid (HLA.out.at hb)
    replace HLB := Lib.hid (HLB.out.at hb)
    replace HB := Lib.hid (HB.out.trans (hb.mono HB.out.size))
    clear hb
    have HAL := Lib.hid hnew
    clear hnew
    go_wp2_with fail
    refine (apart_true _ _ al y _ HAL.out HY.out (by have := HC.out.nal; have := HC.out.ny; omega) HC.out.ial HC.out.iy HC.out.no).mono ?_
    rintro e w11 ⟨rfl, hb⟩
    replace HV := Lib.hid (HV.out.at hb)
    replace HU := Lib.hid (HU.out.at hb)
    replace HA := Lib.hid (HA.out.at hb)
    replace HB2 := Lib.hid (HB2.out.at hb)
    replace HX := Lib.hid (HX.out.at hb)
    replace HY := Lib.hid (HY.out.at hb)
    replace HLA := Lib.hid (HLA.out.at hb)
    replace HLB := Lib.hid (HLB.out.at hb)
    replace HAL := Lib.hid (HAL.out.at hb)
    replace HB := Lib.hid (HB.out.trans (hb.mono HB.out.size))
    clear hb
    go_wp2_with fail
    refine (eitherL_any _ _ al y x _ HAL.out HY.out (by have := HC.out.nal; have := HC.out.ny; omega) HC.out.ial HC.out.iy HC.out.e1).mono ?_
    rintro e w12 ⟨v1, rfl, hnew, hb⟩
    replace HV := Lib.hid (HV.out.at hb)
    replace HU := Lib.hid (HU.out.at hb)
    replace HA := Lib.hid (HA.out.at hb)
    replace HB2 := Lib.hid (HB2.out.at hb)
    replace HX := Lib.hid (HX.out.at hb)
    replace HY := Lib.hid (HY.out.at hb)
    replace HLA := Lib.hid (HLA.out.at hb)
    replace HLB := Lib.hid (HLB.out.at hb)
    replace HAL := Lib.hid (HAL.out.at hb)
    replace HB := Lib.hid (HB.out.trans (hb.mono HB.out.size))
    clear hb
    have H1 := Lib.hid hnew
    clear hnew
    go_wp2_with fail
    refine (same_true _ _ x _ H1.out HX.out).mono ?_
    rintro e w' ⟨rfl, d12, rfl⟩
    have hb := drew_below w12 d12
    replace HV := Lib.hid (HV.out.at hb)
    replace HU := Lib.hid (HU.out.at hb)
    replace HA := Lib.hid (HA.out.at hb)
    replace HB2 := Lib.hid (HB2.out.at hb)
    replace HX := Lib.hid (HX.out.at hb)
    replace HY := Lib.hid (HY.out.at hb)
    replace HLA := Lib.hid (HLA.out.at hb)
    replace HLB := Lib.hid (HLB.out.at hb)
    replace HAL := Lib.hid (HAL.out.at hb)
    replace H1 := Lib.hid (H1.out.at hb)
    replace HB := Lib.hid (HB.out.trans (hb.mono HB.out.size))
    clear hb
    go_wp2_with fail
    refine (eitherL_any _ _ b a x _ HB2.out HA.out (by have := HC.out.na; have := HC.out.nb; omega) HC.out.ib HC.out.ia HC.out.e2).mono ?_
    rintro e w14 ⟨v2, rfl, hnew, hb⟩
    replace HV := Lib.hid (HV.out.at hb)
    replace HU := Lib.hid (HU.out.at hb)
    replace HA := Lib.hid (HA.out.at hb)
    replace HB2 := Lib.hid (HB2.out.at hb)
    replace HX := Lib.hid (HX.out.at hb)
    replace HY := Lib.hid (HY.out.at hb)
    replace HLA := Lib.hid (HLA.out.at hb)
    replace HLB := Lib.hid (HLB.out.at hb)
    replace HAL := Lib.hid (HAL.out.at hb)
    replace H1 := Lib.hid (H1.out.at hb)
    replace HB := Lib.hid (HB.out.trans (hb.mono HB.out.size))
    clear hb
    have H2 := Lib.hid hnew
    clear hnew
    go_wp2_with fail
    refine (same_true _ _ x _ HX.out H2.out).mono ?_
    rintro e w' ⟨rfl, d14, rfl⟩
    have hb := drew_below w14 d14
    replace HV := Lib.hid (HV.out.at hb)
    replace HU := Lib.hid (HU.out.at hb)
    replace HA := Lib.hid (HA.out.at hb)
    replace HB2 := Lib.hid (HB2.out.at hb)
    replace HX := Lib.hid (HX.out.at hb)
    replace HY := Lib.hid (HY.out.at hb)
    replace HLA := Lib.hid (HLA.out.at hb)
    replace HLB := Lib.hid (HLB.out.at hb)
    replace HAL := Lib.hid (HAL.out.at hb)
    replace H1 := Lib.hid (H1.out.at hb)
    replace H2 := Lib.hid (H2.out.at hb)
    replace HB := Lib.hid (HB.out.trans (hb.mono HB.out.size))
    clear hb
    go_wp2_with fail
    refine (lessL_any _ _ x al y _ HX.out HAL.out (by have := HC.out.nx; have := HC.out.nal; omega) HC.out.ix HC.out.ial HC.out.e3).mono ?_
    rintro e w16 ⟨v3, rfl, hnew, hb⟩
    replace HV := Lib.hid (HV.out.at hb)
    replace HU := Lib.hid (HU.out.at hb)
    replace HA := Lib.hid (HA.out.at hb)
    replace HB2 := Lib.hid (HB2.out.at hb)
    replace HX := Lib.hid (HX.out.at hb)
    replace HY := Lib.hid (HY.out.at hb)
    replace HLA := Lib.hid (HLA.out.at hb)
    replace HLB := Lib.hid (HLB.out.at hb)
    replace HAL := Lib.hid (HAL.out.at hb)
    replace H1 := Lib.hid (H1.out.at hb)
    replace H2 := Lib.hid (H2.out.at hb)
    replace HB := Lib.hid (HB.out.trans (hb.mono HB.out.size))
    clear hb
    have H3 := Lib.hid hnew
    clear hnew
    go_wp2_with fail
    refine (same_true _ _ y _ H3.out HY.out).mono ?_
    rintro e w' ⟨rfl, d16, rfl⟩
    have hb := drew_below w16 d16
    replace HV := Lib.hid (HV.out.at hb)
    replace HU := Lib.hid (HU.out.at hb)
    replace HA := Lib.hid (HA.out.at hb)
    replace HB2 := Lib.hid (HB2.out.at hb)
    replace HX := Lib.hid (HX.out.at hb)
    replace HY := Lib.hid (HY.out.at hb)
    replace HLA := Lib.hid (HLA.out.at hb)
    replace HLB := Lib.hid (HLB.out.at hb)
    replace HAL := Lib.hid (HAL.out.at hb)
    replace H1 := Lib.hid (H1.out.at hb)
    replace H2 := Lib.hid (H2.out.at hb)
    replace H3 := Lib.hid (H3.out.at hb)
    replace HB := Lib.hid (HB.out.trans (hb.mono HB.out.size))
    clear hb
    go_wp2
    go_ret
    exact ⟨rfl, HB.out⟩
  · have HN := Lib.hid h200
    clear h200
    go_enter Try.func10, Try.ntmps10
    go_wp2_with fail
    all_goals first
      | (exfalso; have := HN.out; omega)
      | (refine (lives4 _).mono ?_
         rintro e w1 ⟨rfl, hb⟩
         have HB1 := Lib.hid hb
         clear hb
         go_wp2
         go_ret
         exact ⟨rfl, HB1.out⟩)
end Go.Proofs.Ytjpojidpmmodnaa
