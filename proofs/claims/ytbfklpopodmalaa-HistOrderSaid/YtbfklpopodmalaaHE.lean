/- Histories: what was called and not told, as the reference tells it. -/
import Derived.Test.YtbfklpopodmalaaHD
namespace Go.Proofs.Ytbfklpopodmalaa
open Go.RowKit
def opL (h : List Ev) (l : List (Int × Int)) : List (Int × Int) := l.filter fun c => decide (fsI h 3 c < 0)
def opE (h : List Ev) : List (Int × Int) := opL h (allE h 1)
theorem opL_snoc (h : List Ev) (l : List (Int × Int)) (k : Nat) (hk : k < l.length) : opL h (l.take (k + 1)) = opL h (l.take k) ++ (if fsI h 3 (l.getD k (0, 0)) < 0 then [l.getD k (0, 0)] else []) := by
  rw [take_snoc l k (0, 0) hk]
  unfold opL
  rw [List.filter_append]
  generalize l.getD k (0, 0) = d
  by_cases e : fsI h 3 d < 0
  · simp [e]
  · simp [e]
theorem opL_len (h : List Ev) (l : List (Int × Int)) (k : Nat) : (opL h (l.take k)).length ≤ l.length := by
  unfold opL
  exact Nat.le_trans (List.length_filter_le _ _) (by rw [List.length_take]; omega)
set_option maxRecDepth 100000 in
set_option maxHeartbeats 4000000 in

theorem open_any (v : Value) (h : List Ev) (w : World) (hv : KE.IsL w w.heap.size v h) (hl : h.length ≤ 1000) :
    Calls Try.prog 14 #[v] w fun e w' => ∃ v', e = .returned v' ∧ KC.Own w' w.heap.size v' (opE h) ∧ Below w.heap.size w w' := by
  have HV := Lib.hid hv
  have HA := Lib.hid (all_any v h 1 w hv hl)
  have hal : (allE h 1).length ≤ 1000 := by have := allE_len h 1 h.length; rw [List.take_length] at this; omega
  obtain ⟨A, c, rfl, hc⟩ := hv.shape
  clear hv
  have hS : opE h = opL h (allE h 1) := rfl
  rw [hS]
  clear hS
  generalize allE h 1 = l at *
  have HS := Lib.hid (fun k hk => opL_snoc h l k hk)
  have HL := Lib.hid (fun k => opL_len h l k)
  have HE := Lib.hid (show opL h (l.take l.length) = opL h l by rw [List.take_length])
  have HF := Lib.hid (fun v c1 c2 w h1 => first_any v h 3 c1 c2 w h1 hl)
  go_enter Try.func14, Try.ntmps14
  go_wp2_with fail
  refine HA.out.mono ?_
  rintro e w1 ⟨vL, rfl, ho1, hb1⟩
  have HV := Lib.hid (HV.out.then hb1)
  have LL := Lib.hid (ho1.isL (by omega))
  have HB1 := Lib.hid hb1
  clear ho1 hb1 HA
  obtain ⟨AL, cL, rfl, hcL⟩ := LL.out.shape
  go_wp2
  go_loopg [3, 5] l.length (fun gh u i wr => ∃ k : Nat, k ≤ l.length ∧ gh = l.length - k ∧ i = .int .i64 k ∧ KC.Own wr w1.heap.size u (opL h (l.take k)) ∧ Below w1.heap.size w1 wr)
  case atStart => exact ⟨0, Nat.zero_le _, rfl, rfl, Lk.Own.nil _ _, Below.refl _ _⟩
  case round =>
    obtain ⟨k, hk, rfl, rfl, hown, hbl⟩ := hrel
    have HO := Lib.hid hown
    have HB := Lib.hid hbl
    clear hown hbl
    by_cases hlt : k < l.length
    · have HSk := Lib.hid (HS.out k hlt)
      have HLk := Lib.hid (HL.out k)
      obtain ⟨b, off, rfl, hb, _, hcell⟩ := cl_cells (LL.out.then HB.out) (by omega)
      obtain ⟨e0, e1⟩ := hcell k hlt
      have HOK := Lib.hid ((LL.out.2.1 _ (getD_mem' l k (0, 0) hlt)))
      clear hcell
      generalize l.getD k (0, 0) = d at *
      generalize opL h (l.take k) = lst at *
      obtain ⟨d1, d2⟩ := d
      simp only at e0 e1
      have HFk := Lib.hid (fun v w h1 => HF.out v d1 d2 w h1)
      generalize fsI h 3 (d1, d2) = z at *
      go_wp2_with fail
      refine (HFk.out _ _ (HV.out.then HB.out)).mono ?_
      rintro e w2 ⟨rfl, hb2⟩
      have HB2 := Lib.hid (Below.call HB.out hb2)
      have HO2 := Lib.hid (HO.out.below hb2)
      have e0 := keep_cell hb2 e0
      have e1 := keep_cell hb2 e1
      clear hb2
      by_cases hz : z < 0
      · rw [if_pos hz] at HSk
        go_wp2_with (at_builtin; refine Lk.wpList_app (K := KC) _ rfl _ _ rfl rfl w1.heap.size (w2.heap.size + 1) _ _ lst [(d1, d2)] rfl rfl (HO2.out.alloc _) (Lk.IsL.lit (K := KC) _ (d1, d2) _ HOK.out rfl w2.heap.size rfl) ?c1 ?c2 ?_)
        case c1 => have := HLk.out; simp; omega
        case c2 => have := HB2.out.size; simp; omega
        intro v1 w4 hown hgrow _
        have HB4 := Lib.hid (Lk.Own.grow' (HO2.out.alloc _) (Below.al HB2.out _) (by have := HB2.out.size; simp; omega) hgrow)
        have HO4 := Lib.hid hown
        clear hown hgrow
        go_wp2
        go_roundg (l.length - (k + 1))
        case measure => omega
        case rel => exact ⟨k + 1, by omega, rfl, num_i (by omega), by rw [HSk.out]; exact HO4.out, HB4.out⟩
      · rw [if_neg hz, List.append_nil] at HSk
        go_wp2
        go_roundg (l.length - (k + 1))
        case measure => omega
        case rel => exact ⟨k + 1, by omega, rfl, num_i (by omega), by rw [HSk.out]; exact HO2.out, HB2.out⟩
    · obtain rfl : k = l.length := by omega
      go_wp2
      go_ret
      exact ⟨_, rfl, by rw [← HE.out]; exact HO.out.mono HB1.out.size, Below.call HB1.out HB.out⟩
end Go.Proofs.Ytbfklpopodmalaa
