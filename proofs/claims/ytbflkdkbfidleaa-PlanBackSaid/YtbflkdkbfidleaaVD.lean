/- Plans: made, as the reference tells it. -/
import Derived.Test.YtbflkdkbfidleaaVC
import Derived.Laws.StructEq
namespace Go.Proofs.Ytbflkdkbfidleaa
open Go.RowKit
theorem KI.at {w : World} {B b off n c : Nat} {xs : List Int} (h : KI.IsL w B (.slice (some ⟨b, off, none⟩) n c) xs) (i : Nat) (hi : i < xs.length) : w.cell? ⟨b, off + i, none⟩ = some (.int .i64 (xs.getD i 0)) := by
  obtain ⟨b', off', cap, hs, _, _, _, hcell, _⟩ := KI.cells h (by omega)
  simp only [Value.slice.injEq, Option.some.injEq, Addr.mk.injEq] at hs
  obtain ⟨⟨rfl, rfl, _⟩, _, _⟩ := hs
  exact hcell i hi
set_option maxRecDepth 100000 in
set_option maxHeartbeats 4000000 in
theorem rmake_any (v : Value) (ids : List Int) (l : Bool) (w : World) (hv : KI.IsL w w.heap.size v ids) (hl : ids.length ≤ 1000) :
    Calls Try.prog 29 #[v, .bool l] w fun e w' => ∃ v', e = .returned v' ∧ KD.Own w' w.heap.size v' (mkV ids l) ∧ Below w.heap.size w w' := by
  have HV := Lib.hid hv
  have HR := Lib.hid (Two.rright_any v ids w (two_of hv))
  have hS : mkV ids l = if decide (Two.Inc ids) then ids.flatMap (mkL l) ++ [(3, 0)] ++ (ids.reverse.map frD ++ [(5, 0)]) else [] := rfl
  rw [hS]
  have hbk : decide (Two.Inc ids) = true → bkV ids ids.length = ids.reverse.map frD ++ [(5, 0)] := fun h => by
    unfold bkV
    rw [if_pos h, show wi (ids.length : Int) ids.length = ids.length by unfold wi; omega, List.take_length]
  have HBK := Lib.hid hbk
  have HRB := Lib.hid (fun w h => rback_any v ids (ids.length : Int) w h hl)
  obtain ⟨A, c, rfl, hc⟩ := hv.shape
  clear hS hv hbk
  generalize decide (Two.Inc ids) = q at *
  cases q
  · simp only [Bool.false_eq_true, if_false]
    go_enter Try.func29, Try.ntmps29
    go_wp2_with fail
    refine HR.out.mono ?_
    rintro e w1 ⟨rfl, d, rfl⟩
    go_wp2
    go_ret
    exact ⟨_, rfl, Lk.Own.nil _ _, below_drewN (Below.refl _ _) _⟩
  simp only [if_true]
  rw [HBK.out rfl] at HRB
  clear HBK
  have HSN := Lib.hid (fun k h => mkL_snoc l ids k h)
  have HLN := Lib.hid (fun k => mkL_len l (ids.take k))
  obtain ⟨bk, hbk⟩ : ∃ bk, ids.reverse.map frD ++ [(5, 0)] = bk := ⟨_, rfl⟩
  have HBL := Lib.hid (show bk.length = ids.length + 1 by rw [← hbk]; simp)
  rw [hbk] at HRB ⊢
  clear hbk
  go_enter Try.func29, Try.ntmps29
  go_wp2_with fail
  refine HR.out.mono ?_
  rintro e w1 ⟨rfl, d, rfl⟩
  have HB1 := Lib.hid (below_drewN (Below.refl w.heap.size w) d)
  clear HR
  generalize w.drewN d = w1 at *
  go_wp2
  go_loopg [5, 6] ids.length (fun gh u i wr => ∃ k : Nat, k ≤ ids.length ∧ gh = ids.length - k ∧ i = .int .i64 k ∧ KD.Own wr w.heap.size u ((ids.take k).flatMap (mkL l)) ∧ Below w.heap.size w wr)
  case atStart => exact ⟨0, Nat.zero_le _, rfl, rfl, Lk.Own.nil _ _, HB1.out⟩
  case round =>
    obtain ⟨k, hk, rfl, rfl, hown, hbl⟩ := hrel
    have HO := Lib.hid hown
    have HB := Lib.hid hbl
    clear hown hbl
    have HL := Lib.hid (HLN.out k)
    by_cases hlt : k < ids.length
    · have HS := Lib.hid (HSN.out k hlt)
      obtain ⟨b, off, cap', hs, _, hb, _, hcell, hf⟩ := KI.cells (HV.out.then HB.out) (by omega)
      simp only [Value.slice.injEq] at hs
      obtain ⟨rfl, -, rfl⟩ := hs
      have e1 := hcell k hlt
      have HOK1 := Lib.hid (show KD.ok (1, ids.getD k 0) from ⟨show fits 1 by decide, hf k hlt⟩)
      have HOK2 := Lib.hid (show KD.ok (2, ids.getD k 0) from ⟨show fits 2 by decide, hf k hlt⟩)
      have HTL := Lib.hid (show (ids.take k).length ≤ 1000 by rw [List.length_take]; omega)
      have HC := Lib.hid (fun w' (hb : Below w.heap.size w w') => KI.at (HV.out.then hb) k hlt)
      clear hcell hf
      generalize ids.getD k 0 = x at *
      generalize (ids.take k).flatMap (mkL l) = lst at *
      cases l
      · rw [show mkL false x = [(1, x)] from rfl] at HS
        go_wp2_with (at_builtin; refine Lk.wpList_app (K := KD) _ rfl _ _ rfl rfl w.heap.size (wr.heap.size + 1) _ _ lst [(1, x)] rfl rfl (HO.out.alloc _) (Lk.IsL.lit (K := KD) _ (1, x) _ HOK1.out rfl wr.heap.size rfl) ?c1 ?c2 ?_)
        case c1 => have := HL.out; have := HTL.out; simp; omega
        case c2 => have := HB.out.size; simp; omega
        intro v1 w4 hown hgrow _
        have HB4 := Lib.hid (Lk.Own.grow' (HO.out.alloc _) (Below.al HB.out _) (by have := HB.out.size; simp; omega) hgrow)
        have HO4 := Lib.hid hown
        clear hown hgrow
        go_wp2
        go_roundg (ids.length - (k + 1))
        case measure => omega
        case rel => exact ⟨k + 1, by omega, rfl, num_i (by omega), by rw [HS.out]; exact HO4.out, HB4.out⟩
      · rw [show mkL true x = [(1, x), (2, x)] from rfl] at HS
        go_wp2_with (at_builtin; refine Lk.wpList_app (K := KD) _ rfl _ _ rfl rfl w.heap.size (wr.heap.size + 1) _ _ lst [(1, x)] rfl rfl (HO.out.alloc _) (Lk.IsL.lit (K := KD) _ (1, x) _ HOK1.out rfl wr.heap.size rfl) ?c1 ?c2 ?_)
        case c1 => have := HL.out; have := HTL.out; simp; omega
        case c2 => have := HB.out.size; simp; omega
        intro v1 w4 hown hgrow _
        have HB4 := Lib.hid (Lk.Own.grow' (HO.out.alloc _) (Below.al HB.out _) (by have := HB.out.size; simp; omega) hgrow)
        have HO4 := Lib.hid hown
        clear hown hgrow
        have e2 := HC.out _ HB4.out
        go_wp2_with (at_builtin; refine Lk.wpList_app (K := KD) _ rfl _ _ rfl rfl w.heap.size (w4.heap.size + 1) _ _ (lst ++ [(1, x)]) [(2, x)] rfl rfl (HO4.out.alloc _) (Lk.IsL.lit (K := KD) _ (2, x) _ HOK2.out rfl w4.heap.size rfl) ?c1 ?c2 ?_)
        case c1 => have := HL.out; have := HTL.out; simp; omega
        case c2 => have := HB4.out.size; simp; omega
        intro v2 w5 hown hgrow _
        have HB5 := Lib.hid (Lk.Own.grow' (HO4.out.alloc _) (Below.al HB4.out _) (by have := HB4.out.size; simp; omega) hgrow)
        have HO5 := Lib.hid hown
        clear hown hgrow
        go_wp2
        go_roundg (ids.length - (k + 1))
        case measure => omega
        case rel => exact ⟨k + 1, by omega, rfl, num_i (by omega), by rw [HS.out]; exact HO5.out, HB5.out⟩
    · obtain rfl : k = ids.length := by omega
      rw [List.take_length] at HO HL
      have HOK3 := Lib.hid (show KD.ok (3, 0) from ⟨show fits 3 by decide, show fits 0 by decide⟩)
      obtain ⟨lst, hlst⟩ : ∃ lst, ids.flatMap (mkL l) = lst := ⟨_, rfl⟩
      have HLS := Lib.hid hlst
      rw [hlst] at HO HL
      clear hlst
      go_wp2_with (at_builtin; refine Lk.wpList_app (K := KD) _ rfl _ _ rfl rfl w.heap.size (wr.heap.size + 1) _ _ lst [(3, 0)] rfl rfl (HO.out.alloc _) (Lk.IsL.lit (K := KD) _ (3, 0) _ HOK3.out rfl wr.heap.size rfl) ?c1 ?c2 ?_)
      case c1 => have := HL.out; simp; omega
      case c2 => have := HB.out.size; simp; omega
      intro v1 w4 hown hgrow _
      have HB4 := Lib.hid (Lk.Own.grow' (HO.out.alloc _) (Below.al HB.out _) (by have := HB.out.size; simp; omega) hgrow)
      have HO4 := Lib.hid hown
      clear hown hgrow
      go_wp2_with fail
      refine (HRB.out _ (HV.out.then HB4.out)).mono ?_
      rintro e w5 ⟨vb, rfl, hob, hbb⟩
      have HB5 := Lib.hid (Below.call HB4.out hbb)
      have HO5 := Lib.hid (HO4.out.below hbb)
      have HIB := Lib.hid (hob.isL (by have := HBL.out; omega))
      clear hob hbb HO4 HO
      go_wp2_with (at_builtin; refine Lk.wpList_app (K := KD) _ rfl _ _ rfl rfl w.heap.size w5.heap.size _ _ (lst ++ [(3, 0)]) bk rfl rfl HO5.out HIB.out ?c1 ?c2 ?_)
      case c1 => have := HL.out; have := HBL.out; simp; omega
      case c2 => exact HB5.out.size
      intro v6 w6 hown hgrow _
      have HB6 := Lib.hid (Lk.Own.grow' HO5.out HB5.out HB5.out.size hgrow)
      have HO6 := Lib.hid hown
      clear hown hgrow
      go_wp2
      go_ret
      exact ⟨_, rfl, by rw [HLS.out]; simpa using HO6.out, HB6.out⟩
set_option maxRecDepth 100000 in
set_option maxHeartbeats 4000000 in
theorem dsame_any (v u : Value) (xs ys : List (Int × Int)) (w : World) (hv : KD.IsL w w.heap.size v xs) (hu : KD.IsL w w.heap.size u ys) :
    Calls Try.prog 27 #[v, u] w fun e w' => e = .returned (.bool (decide (xs = ys))) ∧ ∃ d, w' = w.drewN d := by
  have HV := Lib.hid hv
  have HU := Lib.hid hu
  obtain ⟨A, c, rfl, hc⟩ := hv.shape
  obtain ⟨A2, c2, rfl, hc2⟩ := hu.shape
  have hl := hv.2.2
  have hl2 := hu.2.2
  have HF := Lib.hid (fun h : xs ≠ ys => decide_eq_false h)
  have HT := Lib.hid (fun h : xs = ys => decide_eq_true h)
  have HX := Lib.hid (fun (hln : xs.length = ys.length) (h : ∀ j, j < xs.length → xs.getD j (0, 0) = ys.getD j (0, 0)) => (List.ext_getElem hln fun i h1 h2 => by
    have := h i h1
    rw [List.getD_eq_getElem?_getD, List.getD_eq_getElem?_getD, List.getElem?_eq_getElem h1, List.getElem?_eq_getElem h2] at this
    exact this : xs = ys))
  clear hv hu
  generalize decide (xs = ys) = z at *
  by_cases hln : (xs.length : Int) = ys.length
  · have hln2 : xs.length = ys.length := by omega
    have HLN := Lib.hid hln2
    rw [← hln2]
    rw [← hln2] at HU
    clear hln2 hln
    go_enter Try.func27, Try.ntmps27
    go_wp2
    go_loopg [5] xs.length (fun gh i wr => ∃ k d : Nat, k ≤ xs.length ∧ gh = xs.length - k ∧ i = .int .i64 k ∧ (∀ j, j < k → xs.getD j (0, 0) = ys.getD j (0, 0)) ∧ wr = w.drewN d)
    case atStart => exact ⟨0, 0, Nat.zero_le _, rfl, rfl, fun j hj => absurd hj (Nat.not_lt_zero _), rfl⟩
    case round =>
      obtain ⟨k, d, hk, rfl, rfl, hj, hw⟩ := hrel
      have HJ := Lib.hid hj
      have HW := Lib.hid hw
      clear hj
      by_cases hlt : k < xs.length
      · obtain ⟨b, off, rfl, hb, _, hcell⟩ := dd_cells HV.out (by omega)
        obtain ⟨b2, off2, rfl, hb2, _, hcell2⟩ := dd_cells HU.out (by have := HLN.out; omega)
        have e0 : wr.cell? ⟨b, off + k * 2, none⟩ = some (.int .i64 (xs.getD k (0, 0)).1) := by rw [hw]; exact (hcell k hlt).1
        have e1 : wr.cell? ⟨b, off + k * 2 + 1, none⟩ = some (.int .i64 (xs.getD k (0, 0)).2) := by rw [hw]; exact (hcell k hlt).2
        have e2 : wr.cell? ⟨b2, off2 + k * 2, none⟩ = some (.int .i64 (ys.getD k (0, 0)).1) := by rw [hw]; exact (hcell2 k (by have := HLN.out; omega)).1
        have e3 : wr.cell? ⟨b2, off2 + k * 2 + 1, none⟩ = some (.int .i64 (ys.getD k (0, 0)).2) := by rw [hw]; exact (hcell2 k (by have := HLN.out; omega)).2
        have HNE := Lib.hid (fun (h : xs.getD k (0, 0) ≠ ys.getD k (0, 0)) => HF.out (fun e => h (by rw [e])))
        clear hcell hcell2 hw
        obtain ⟨p, hp⟩ : ∃ p, xs.getD k (0, 0) = p := ⟨_, rfl⟩
        obtain ⟨r, hr⟩ : ∃ r, ys.getD k (0, 0) = r := ⟨_, rfl⟩
        have HP := Lib.hid hp
        have HR := Lib.hid hr
        rw [hp] at e0 e1 HNE
        rw [hr] at e2 e3 HNE
        clear hp hr
        obtain ⟨p1, p2⟩ := p
        obtain ⟨r1, r2⟩ := r
        simp only at e0 e1 e2 e3
        by_cases h1 : p1 = r1
        · by_cases h2 : p2 = r2
          · subst h1; subst h2
            go_wp2_with fail
            go_quiet (fail)
            go_wp2
            go_roundg (xs.length - (k + 1))
            case measure => omega
            case rel => exact ⟨k + 1, _, by omega, rfl, num_i (by omega), fun j hj => by
              by_cases e : j = k
              · subst e; rw [HP.out, HR.out]
              · exact HJ.out j (by omega), by rw [HW.out]; exact World.drewN_drewN _ _ _⟩
          · have HN := Lib.hid (HNE.out (by simp [h2]))
            subst h1
            have hq : (p2 == r2) = false := by rw [beq_eq_false_iff_ne]; exact h2
            clear h2
            go_wp2_with fail
            go_quiet (fail)
            go_wp2
            go_ret
            exact ⟨ret_b HN.out.symm, _, by rw [HW.out]; exact World.drewN_drewN _ _ _⟩
        · have HN := Lib.hid (HNE.out (by simp [h1]))
          have hq : (p1 == r1) = false := by rw [beq_eq_false_iff_ne]; exact h1
          clear h1
          go_wp2_with fail
          go_quiet (fail)
          go_wp2
          go_ret
          exact ⟨ret_b HN.out.symm, _, by rw [HW.out]; exact World.drewN_drewN _ _ _⟩
      · obtain rfl : k = xs.length := by omega
        clear hw
        go_wp2
        go_ret
        exact ⟨ret_b (HT.out (HX.out HLN.out HJ.out)).symm, _, HW.out⟩
  · have HN := Lib.hid (HF.out (fun e => hln (by rw [e])))
    go_enter Try.func27, Try.ntmps27
    go_wp2
    go_ret
    exact ⟨ret_b HN.out.symm, 0, rfl⟩
end Go.Proofs.Ytbflkdkbfidleaa
