/- Owners, as the reference tells it: what an arm owns, and what it lacks. -/
import Derived.Test.YtacjonncakhhmaaOG
namespace Go.Proofs.Ytacjonncakhhmaa
open Go.RowKit
set_option maxRecDepth 100000 in
set_option maxHeartbeats 4000000 in
theorem rof_o (v : Value) (o : List Int) (who : Int) (w : World) (hv : KI.IsL w w.heap.size v o) (hl : o.length ≤ 1000) :
    Calls Try.prog 38 #[v, .int .i64 who] w fun e w' => ∃ v', e = .returned v' ∧ KI.Own w' w.heap.size v' (ofL o who o.length) ∧ Below w.heap.size w w' := by
  have HV := Lib.hid hv
  obtain ⟨A, c, rfl, hc⟩ := hv.shape
  clear hv
  go_enter Try.func38, Try.ntmps38
  go_wp2
  go_loopw [5, 6] (fun u i wr => ∃ k : Nat, k ≤ o.length ∧ i = .int .i64 k ∧ KI.Own wr w.heap.size u (ofL o who k) ∧ Below w.heap.size w wr) (fun _ i _ => o.length - (intOf i).toNat)
  case atStart => exact ⟨0, Nat.zero_le _, rfl, (show KI.Own w w.heap.size (.slice none 0 0) [] from Lk.Own.nil _ _), Below.refl _ _⟩
  case round =>
    obtain ⟨k, hk, rfl, hown, hbl⟩ := hrel
    have HO := Lib.hid hown
    have HB := Lib.hid hbl
    clear hown hbl
    by_cases hlt : k < o.length
    · obtain ⟨b, off, cap', hs, _, hb, hl2, hcell, hf⟩ := KI.cells (HV.out.then HB.out) (by omega)
      simp only [Value.slice.injEq] at hs
      obtain ⟨rfl, _, rfl⟩ := hs
      have e1 := hcell k hlt
      have HS := Lib.hid (ofL_snoc o who k)
      have HL := Lib.hid (ofL_len o who k)
      clear hcell hf
      generalize o.getD k 0 = x at *
      by_cases hx : x = who
      · rw [if_pos hx] at HS
        go_wp2_with (at_builtin; refine Lk.wpList_app (K := KI) _ rfl _ _ rfl rfl w.heap.size (wr.heap.size + 1) _ _ (ofL o who k) [(k : Int)] rfl rfl (HO.out.alloc _) (Lk.IsL.lit (K := KI) _ (k : Int) _ (show fits (k : Int) by unfold fits; omega) rfl wr.heap.size rfl) ?c1 ?c2 ?_)
        case c1 => have := HL.out; simp; omega
        case c2 => have := HB.out.size; simp; omega
        intro v1 w4 hown hgrow _
        have HB4 := Lib.hid (Lk.Own.grow' (HO.out.alloc _) (Below.al HB.out _) (by have := HB.out.size; simp; omega) hgrow)
        have HO4 := Lib.hid hown
        clear hown hgrow
        go_wp2
        go_roundw
        case rel => exact ⟨k + 1, by omega, num_i (by omega), by rw [HS.out]; exact HO4.out, HB4.out⟩
        case measure => simp [intOf]; omega
      · rw [if_neg hx, List.append_nil] at HS
        go_wp2
        go_roundw
        case rel => exact ⟨k + 1, by omega, num_i (by omega), by rw [HS.out]; exact HO.out, HB.out⟩
        case measure => simp [intOf]; omega
    · obtain rfl : k = o.length := by omega
      go_wp2
      go_ret
      exact ⟨_, rfl, HO.out, HB.out⟩
set_option maxRecDepth 100000 in
set_option maxHeartbeats 4000000 in
theorem rlacks_o (v u : Value) (o ids : List Int) (who : Int) (w : World) (hv : KI.IsL w w.heap.size v o) (hu : KI.IsL w w.heap.size u ids) :
    Calls Try.prog 36 #[v, u, .int .i64 who] w fun e w' => e = .returned (fsV (fstN (lkB o who) ids)) ∧ Below w.heap.size w w' := by
  have HV := Lib.hid hv
  have HU := Lib.hid hu
  obtain ⟨A, c, rfl, hc⟩ := hv.shape
  obtain ⟨A2, c2, rfl, hc2⟩ := hu.shape
  have hl2 := hu.2.2
  have hlo := hv.2.2
  have HH := Lib.hid (hasB_iff o.length)
  have HLK := Lib.hid (fun x => show lkB o who x = (!hasB o.length x || !decide (o.getD x.toNat 0 = who)) from rfl)
  have HF := Lib.hid (fstN_hit (lkB o who) ids)
  have HN := Lib.hid (fstN_none (lkB o who) ids)
  generalize fstN (lkB o who) ids = z at *
  obtain ⟨z1, z2⟩ := z
  clear hv hu
  go_enter Try.func36, Try.ntmps36
  go_wp2
  go_loopw [8] (fun i wr => ∃ k : Nat, k ≤ ids.length ∧ i = .int .i64 k ∧ (∀ j, j < k → lkB o who (ids.getD j 0) = false) ∧ Below w.heap.size w wr) (fun i _ => ids.length - (intOf i).toNat)
  case atStart => exact ⟨0, Nat.zero_le _, rfl, fun j hj => absurd hj (Nat.not_lt_zero _), Below.refl _ _⟩
  case round =>
    obtain ⟨k, hk, rfl, hj, hbl⟩ := hrel
    have HJ := Lib.hid hj
    have HB := Lib.hid hbl
    clear hj hbl
    by_cases hlt : k < ids.length
    · obtain ⟨b, off, cap', hs, _, hb, _, hcell, hf⟩ := KI.cells (HU.out.then HB.out) (by omega)
      simp only [Value.slice.injEq] at hs
      obtain ⟨rfl, _, rfl⟩ := hs
      have e1 := hcell k hlt
      have HFk := Lib.hid (HF.out k hlt)
      obtain ⟨x, hx⟩ : ∃ x, ids.getD k 0 = x := ⟨_, rfl⟩
      have HX := Lib.hid hx
      rw [hx] at e1 HFk
      clear hcell hf hx
      by_cases hno : hasB o.length x = false
      · have hq : lkB o who x = true := by rw [HLK.out, hno]; rfl
        have hx2 : ¬ (0 ≤ x ∧ x < (o.length : Int)) := fun h => by rw [(HH.out x).2 h] at hno; cases hno
        clear hno
        have e := HFk.out hq HJ.out
        simp only [Prod.mk.injEq] at e
        obtain ⟨rfl, rfl⟩ := e
        clear HFk hq
        by_cases h0 : z1 < 0
        · clear hx2
          go_wp2_with fail
          try go_quiet (fail)
          go_wp2
          go_ret2
          exact ⟨rfl, by first | exact HB.out | exact below_drewN HB.out _⟩
        · have h1 : (o.length : Int) ≤ z1 := by omega
          clear hx2
          go_wp2_with fail
          try go_quiet (fail)
          go_wp2
          go_ret2
          exact ⟨rfl, by first | exact HB.out | exact below_drewN HB.out _⟩
      · obtain ⟨hx0, hx1⟩ := (HH.out x).1 (by rw [← Bool.not_eq_false]; exact hno)
        have hys : hasB o.length x = true := by rw [← Bool.not_eq_false]; exact hno
        clear hno
        obtain ⟨m, rfl⟩ := Int.eq_ofNat_of_zero_le hx0
        obtain ⟨b2, off2, cap2, hs, _, hb2, _, hcell, hf⟩ := KI.cells (HV.out.then HB.out) (by omega)
        simp only [Value.slice.injEq] at hs
        obtain ⟨rfl, _, rfl⟩ := hs
        have e2 := hcell m (by omega)
        obtain ⟨y, hy⟩ : ∃ y, o.getD m 0 = y := ⟨_, rfl⟩
        rw [hy] at e2
        have HY := Lib.hid hy
        clear hcell hf hy
        by_cases h1 : y = who
        · have hq : lkB o who (m : Int) = false := by rw [HLK.out, hys, show ((m : Int)).toNat = m from rfl, HY.out, decide_eq_true h1]; rfl
          go_wp2
          go_roundw
          case rel => exact ⟨k + 1, by omega, num_i (by omega), fun j hj => by
            by_cases h : j = k
            · subst h; rw [HX.out]; exact hq
            · exact HJ.out j (by omega), HB.out⟩
          case measure => simp [intOf]; omega
        · have hq : lkB o who (m : Int) = true := by rw [HLK.out, hys, show ((m : Int)).toNat = m from rfl, HY.out, decide_eq_false h1]; rfl
          have g1 : (y != who) = true := by simpa using h1
          clear h1
          have e := HFk.out hq HJ.out
          simp only [Prod.mk.injEq] at e
          obtain ⟨rfl, rfl⟩ := e
          clear HFk hq hys
          go_wp2_with fail
          try go_quiet (fail)
          go_wp2
          go_ret2
          exact ⟨rfl, by first | exact HB.out | exact below_drewN HB.out _⟩
    · obtain rfl : k = ids.length := by omega
      have e := HN.out HJ.out
      simp only [Prod.mk.injEq] at e
      obtain ⟨rfl, rfl⟩ := e
      go_wp2
      go_ret2
      exact ⟨rfl, HB.out⟩
end Go.Proofs.Ytacjonncakhhmaa
