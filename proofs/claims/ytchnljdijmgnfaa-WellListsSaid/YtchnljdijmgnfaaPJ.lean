/- Two lists of joined spans put together. -/
import Derived.Test.YtchnljdijmgnfaaPM
namespace Go.Proofs.Ytchnljdijmgnfaa
open Go.RowKit
def Merged (w : World) (a b : List (Int × Int)) (e : Ending) (w' : World) : Prop := ∃ v m, e = .returned v ∧ Mrg a b m a.length b.length ∧ IsL w' w'.heap.size v m ∧ Below w.heap.size w w' ∧ ∀ q, v.ownBlock = some q → w.heap.size ≤ q
/-- A pair in a block that is not a row's. -/
def Box (w : World) (B : Nat) (v : Value) (x : Int × Int) : Prop := w.cell? ⟨B, 0, none⟩ = some (.int .i64 x.1) ∧ w.cell? ⟨B, 1, none⟩ = some (.int .i64 x.2) ∧ v.ownBlock ≠ some B
theorem Box.grown {w w' : World} {B : Nat} {v v' : Value} {x : Int × Int} (h : Box w B v x) (hg : w.grownBy w' v.ownBlock) (hv : v'.ownBlock = v.ownBlock ∨ ∃ b, w.heap.size ≤ b ∧ v'.ownBlock = some b) : Box w' B v' x := by
  obtain ⟨h1, h2, h3⟩ := h
  refine ⟨hg.cell h1 (fun e => h3 e.symm), hg.cell h2 (fun e => h3 e.symm), ?_⟩
  have hlt := World.block_lt_of_cell? w _ h1
  rcases hv with e | ⟨b, hb, e⟩
  · rw [e]; exact h3
  · rw [e]
    intro k
    have : b = B := by simpa using k
    simp only at hlt
    omega
theorem box_new {w : World} {base : Nat} {v : Value} {m : List (Int × Int)} (h : Own w base v m) (x : Int × Int) : Box (w.alloc (.cells #[.int .i64 x.1, .int .i64 x.2] 23)) w.heap.size v x := by
  refine ⟨?_, ?_, fun e => ?_⟩
  · rw [cell_of_row _ w.heap.size _ _ _ (0, 0) (heap_alloc_new w _)]; rfl
  · rw [cell_of_row _ w.heap.size _ _ _ (0, 0) (heap_alloc_new w _)]; rfl
  · have := (h.lt _ e).2; omega

set_option maxHeartbeats 4000000 in
theorem merge_any (va vb : Value) (a b : List (Int × Int)) (w : World) (ha : IsL w w.heap.size va a) (hb : IsL w w.heap.size vb b) (na : Norm a) (nb : Norm b) (hl : a.length + b.length ≤ 1000) :
    Calls Try.prog 41 #[va, vb] w (Merged w a b) := by
  obtain ⟨i0, hi, hz0, hz1, hz2⟩ := info_parts pair_info
  obtain ⟨⟨A, capa, rfl, hca, hA⟩, hfa, hla⟩ := ha
  obtain ⟨⟨A2, capb, rfl, hcb, hA2⟩, hfb, hlb⟩ := hb
  have HA := Lib.hid hA
  have HA2 := Lib.hid hA2
  have NA := Lib.hid na
  have NB := Lib.hid nb
  have FA := Lib.hid hfa
  have FB := Lib.hid hfb
  have i1 : (a.length : Int) ≤ 1000 := by omega
  have i2 : (b.length : Int) ≤ 1000 := by omega
  clear hA hA2 na nb hfa hfb
  go_enter Try.func41, Try.ntmps41
  go_wp2_with (at_make; refine wpList_make_own _ rfl _ _ 30 rfl w.heap.size 23 i0 (.agg #[.int .i64 0, .int .i64 0]) 2 Try.underlying30 hi hz0 hz1 _ _ _ (a.length + b.length) rfl rfl (by omega) ?bytes ?maxLen ?base ?_)
  case bytes => rw [hz2]; omega
  case maxLen => unfold maxLen; omega
  case base => exact Nat.le_refl _
  intro w0 hown0 hg0
  have HO0 := Lib.hid (show Own w0 w.heap.size (.slice (some ⟨w.heap.size, 0, none⟩) 0 (a.length + b.length)) [] from ⟨hown0, fun x hx => by simp at hx⟩)
  have HB0 := Lib.hid (show Below w.heap.size w w0 from (Below.refl _ w).grown hg0 (Nat.le_refl _) (fun k hk => by cases hk))
  clear hown0 hg0
  go_wp2
  go_loopw [5, 6, 19] (fun t q i wr => ∃ (k j : Nat) (m : List (Int × Int)), k ≤ a.length ∧ j ≤ b.length ∧ i = .int .i64 (k : Int) ∧ q = .int .i64 (j : Int) ∧ Own wr w.heap.size t m ∧ Below w.heap.size w wr ∧ Mrg a b m k j) (fun _ _ i _ => a.length - (intOf i).toNat)
  case atStart => exact ⟨0, 0, [], Nat.zero_le _, Nat.zero_le _, rfl, rfl, HO0.out, HB0.out, Mrg.start _ _⟩
  case round =>
    clear HO0 HB0
    obtain ⟨k, j, m, hk, hj, rfl, rfl, hown, hbel, hm⟩ := hrel
    have HO := Lib.hid hown
    have HL := Lib.hid hbel
    have HM := Lib.hid hm
    by_cases hlt : k < a.length
    · obtain ⟨b1, off, rfl, hbB, hcell⟩ := HA.out (by omega)
      have hx1 : wr.cell? ⟨b1, off + k * 2, none⟩ = some (.int .i64 (a.getD k (0, 0)).1) := (hbel.cell (p := ⟨b1, off + k * 2, none⟩) hbB).trans (hcell k hlt).1
      have hx2 : wr.cell? ⟨b1, off + k * 2 + 1, none⟩ = some (.int .i64 (a.getD k (0, 0)).2) := (hbel.cell (p := ⟨b1, off + k * 2 + 1, none⟩) hbB).trans (hcell k hlt).2
      have HFX := Lib.hid (getD_fits FA.out k)
      have HSA := Lib.hid (fun (jj : Nat) (mm : List (Int × Int)) (hh : Mrg a b mm k jj) (h2 : jj < b.length → (a.getD k (0, 0)).1 ≤ (b.getD jj (0, 0)).1) => hh.stepA NA.out hlt h2)
      have HSB := Lib.hid (fun (jj : Nat) (mm : List (Int × Int)) (hh : Mrg a b mm k jj) (h2 : jj < b.length) (h3 : (b.getD jj (0, 0)).1 ≤ (a.getD k (0, 0)).1) => hh.stepB NB.out h2 (fun _ => h3))
      clear hcell hown hbel hm
      generalize a.getD k (0, 0) = x at *
      have HBX := Lib.hid (box_new HO.out x)
      have HO1 := Lib.hid (HO.out.alloc (.cells #[.int .i64 x.1, .int .i64 x.2] 23))
      have HL1 := Lib.hid (HL.out.alloc HL.out.size (.cells #[.int .i64 x.1, .int .i64 x.2] 23))
      obtain ⟨wo, hwo⟩ : ∃ wo, wo = wr := ⟨_, rfl⟩
      subst hwo
      go_wp2
      go_loopw [5, 6] (fun t q wr => ∃ (j : Nat) (m : List (Int × Int)), j ≤ b.length ∧ q = .int .i64 (j : Int) ∧ Own wr w.heap.size t m ∧ Below w.heap.size w wr ∧ Mrg a b m k j ∧ Box wr wo.heap.size t x) (fun _ q _ => b.length - (intOf q).toNat)
      case atStart => exact ⟨j, m, hj, rfl, HO1.out, HL1.out, HM.out, HBX.out⟩
      case round =>
        clear HO HL HO1 HL1 HM HBX hx1 hx2
        obtain ⟨j, m, hj, rfl, hown, hbel, hm, hbx⟩ := hrel
        have HO := Lib.hid hown
        have HL := Lib.hid hbel
        have HM := Lib.hid hm
        have HX := Lib.hid hbx
        have hc1 := hbx.1
        have hc2 := hbx.2.1
        clear hbx
        by_cases ht : j < b.length
        · obtain ⟨b2, off2, rfl, hbB2, hcell2⟩ := HA2.out (by omega)
          have hy1 : wr.cell? ⟨b2, off2 + j * 2, none⟩ = some (.int .i64 (b.getD j (0, 0)).1) := (hbel.cell (p := ⟨b2, off2 + j * 2, none⟩) hbB2).trans (hcell2 j ht).1
          have hy2 : wr.cell? ⟨b2, off2 + j * 2 + 1, none⟩ = some (.int .i64 (b.getD j (0, 0)).2) := (hbel.cell (p := ⟨b2, off2 + j * 2 + 1, none⟩) hbB2).trans (hcell2 j ht).2
          have HFY := Lib.hid (getD_fits FB.out j)
          have HS1 := Lib.hid (HSB.out j m hm ht)
          have HS2 := Lib.hid (HSA.out j m hm)
          have hd0 : decide (j < b.length) = true := by simpa using ht
          clear hcell2 hown hbel hm
          generalize b.getD j (0, 0) = y at *
          by_cases h1 : y.1 < x.1
          · have hd1 : decide (y.1 < x.1) = true := by simpa using h1
            have HS3 := Lib.hid (HS1.out (by omega))
            go_wp2
            go_quiet (fail)
            go_wp2_with fail
            refine (attach_any _ w.heap.size m y HFY.out _ (HO.out.drewN nq) (by have := HL.out.size; (try simp); omega) (by have := HM.out.len; omega)).mono ?_
            rintro e w1 ⟨v1, rfl, hown1, hg1, hv1⟩
            have H1 := Lib.hid hown1
            have H2 := Lib.hid ((HO.out.drewN nq).grow' (below_drewN HL.out nq) HL.out.size hg1)
            have H3 := Lib.hid (Box.grown (w := wr.drewN nq) HX.out hg1 hv1)
            clear hown1 hg1 hv1
            go_wp2
            go_roundw
            case rel => exact ⟨j + 1, attL m y, by omega, num_i (by omega), H1.out, H2.out, HS3.out, H3.out⟩
            case measure => simp [intOf]; omega
          · have hd1 : decide (y.1 < x.1) = false := by simpa using h1
            have HS3 := Lib.hid (HS2.out (fun _ => by omega))
            go_wp2
            go_quiet (fail)
            go_wp2_with fail
            refine (attach_any _ w.heap.size m x HFX.out _ (HO.out.drewN nq) (by have := HL.out.size; (try simp); omega) (by have := HM.out.len; omega)).mono ?_
            rintro e w1 ⟨v1, rfl, hown1, hg1, hv1⟩
            have H1 := Lib.hid hown1
            have H2 := Lib.hid ((HO.out.drewN nq).grow' (below_drewN HL.out nq) HL.out.size hg1)
            have H3 := Lib.hid (Box.grown (w := wr.drewN nq) HX.out hg1 hv1)
            clear hown1 hg1 hv1
            go_wp2
            go_roundw
            case rel => exact ⟨k + 1, j, attL m x, by omega, hj, num_i (by omega), rfl, H1.out, H2.out, HS3.out⟩
            case measure => simp [intOf]; omega
        · have HS3 := Lib.hid (HSA.out j m hm (fun h => absurd h ht))
          have hd0 : decide (j < b.length) = false := by simpa using ht
          clear hown hbel hm
          go_wp2
          go_quiet (fail)
          go_wp2_with fail
          refine (attach_any _ w.heap.size m x HFX.out _ (HO.out.drewN nq) (by have := HL.out.size; (try simp); omega) (by have := HM.out.len; omega)).mono ?_
          rintro e w1 ⟨v1, rfl, hown1, hg1, hv1⟩
          have H1 := Lib.hid hown1
          have H2 := Lib.hid ((HO.out.drewN nq).grow' (below_drewN HL.out nq) HL.out.size hg1)
          have H3 := Lib.hid (Box.grown (w := wr.drewN nq) HX.out hg1 hv1)
          clear hown1 hg1 hv1
          go_wp2
          go_roundw
          case rel => exact ⟨k + 1, j, attL m x, by omega, hj, num_i (by omega), rfl, H1.out, H2.out, HS3.out⟩
          case measure => simp [intOf]; omega
    · obtain rfl : k = a.length := by omega
      clear hown hbel hm
      by_cases ht : j < b.length
      · obtain ⟨b2, off2, rfl, hbB2, hcell2⟩ := HA2.out (by omega)
        have hcj : ¬ capb = j := by omega
        have i3 : (0 : Int) ≤ (j : Int) := by omega
        have i4 : (j : Int) ≤ (b.length : Int) := by omega
        have HC2 := Lib.hid hcell2
        clear hcell2
        obtain ⟨wo, hwo⟩ : ∃ wo, wo = wr := ⟨_, rfl⟩
        subst hwo
        have hle : b.length - j ≤ 1000 := by omega
        go_wp2
        go_loopw [5, 53] (fun t i wr => ∃ (n : Nat) (m : List (Int × Int)), n ≤ b.length - j ∧ i = .int .i64 (n : Int) ∧ Own wr w.heap.size t m ∧ Below w.heap.size w wr ∧ Mrg a b m a.length (j + n)) (fun _ i _ => b.length - j - (intOf i).toNat)
        case atStart => exact ⟨0, m, Nat.zero_le _, rfl, HO.out, HL.out, HM.out⟩
        case round =>
          clear HO HL HM
          obtain ⟨n, m, hn, rfl, hown, hbel, hm⟩ := hrel
          have HO := Lib.hid hown
          have HL := Lib.hid hbel
          have HM := Lib.hid hm
          by_cases hlt : n < b.length - j
          · have hy1 : wr.cell? ⟨b2, off2 + j * 2 + n * 2, none⟩ = some (.int .i64 (b.getD (j + n) (0, 0)).1) := (hbel.cell (p := ⟨b2, off2 + j * 2 + n * 2, none⟩) hbB2).trans (by have := (HC2.out (j + n) (by omega)).1; rw [Nat.add_mul, ← Nat.add_assoc] at this; exact this)
            have hy2 : wr.cell? ⟨b2, off2 + j * 2 + n * 2 + 1, none⟩ = some (.int .i64 (b.getD (j + n) (0, 0)).2) := (hbel.cell (p := ⟨b2, off2 + j * 2 + n * 2 + 1, none⟩) hbB2).trans (by have := (HC2.out (j + n) (by omega)).2; rw [Nat.add_mul, ← Nat.add_assoc] at this; exact this)
            have HFY := Lib.hid (getD_fits FB.out (j + n))
            have HS3 := Lib.hid (hm.stepB NB.out (by omega) (fun h => absurd h (Nat.lt_irrefl _)))
            clear hown hbel hm
            generalize b.getD (j + n) (0, 0) = y at *
            go_wp2_with fail
            refine (attach_any _ w.heap.size m y HFY.out _ (HO.out.alloc _) (by have := HL.out.size; simp; omega) (by have := HM.out.len; omega)).mono ?_
            rintro e w1 ⟨v1, rfl, hown1, hg1, hv1⟩
            have H1 := Lib.hid hown1
            have H2 := Lib.hid ((HO.out.alloc _).grow' (HL.out.alloc HL.out.size _) (by have := HL.out.size; simp; omega) hg1)
            clear hown1 hg1 hv1
            go_wp2
            go_roundw
            case rel => exact ⟨n + 1, attL m y, by omega, num_i (by omega), H1.out, H2.out, HS3.out⟩
            case measure => simp [intOf]; omega
          · obtain rfl : n = b.length - j := by omega
            have HD := Lib.hid (show Mrg a b m a.length b.length by have := hm; rw [show j + (b.length - j) = b.length by omega] at this; exact this)
            clear hown hbel hm
            go_wp2
            go_ret
            exact ⟨_, m, rfl, HD.out, HO.out.isL (by have := HD.out.len; omega), HL.out, fun q hq => (HO.out.lt q hq).1⟩
      · obtain rfl : j = b.length := by omega
        obtain ⟨wo, hwo⟩ : ∃ wo, wo = wr := ⟨_, rfl⟩
        subst hwo
        rcases A2 with _ | ad
        all_goals
          by_cases hcj : capb = b.length
          all_goals
            go_wp2
            obtain ⟨tv, rfl⟩ : ∃ tv, tv = u5 := ⟨_, rfl⟩
            go_loop [5, 53] (fun t i => t = tv ∧ i = .int .i64 0) (fun _ _ => 0)
            case atStart => exact ⟨rfl, rfl⟩
            case round =>
              obtain ⟨rfl, rfl⟩ := hrel
              go_wp2
              go_ret
              exact ⟨_, m, rfl, HM.out, HO.out.isL (by have := HM.out.len; omega), HL.out, fun q hq => (HO.out.lt q hq).1⟩
end Go.Proofs.Ytchnljdijmgnfaa
