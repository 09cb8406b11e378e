/- Histories: the calls of one kind of events, as the reference tells them. -/
import Derived.Test.YtbfklpopodmalaaHB
namespace Go.Proofs.Ytbfklpopodmalaa
open Go.RowKit
theorem all_snoc (h : List Ev) (q : Int) (k : Nat) (hk : k < h.length) : allE (h.take (k + 1)) q = allE (h.take k) q ++ (if (h.getD k ev0).k = q then [(h.getD k ev0).c] else []) := by
  rw [take_snoc h k ev0 hk]
  unfold allE
  rw [List.filter_append, List.map_append]
  generalize h.getD k ev0 = d
  by_cases e : d.k = q
  · simp [e]
  · simp [e]
theorem allE_len (h : List Ev) (q : Int) (k : Nat) : (allE (h.take k) q).length ≤ h.length := by
  unfold allE
  rw [List.length_map]
  exact Nat.le_trans (List.length_filter_le _ _) (by rw [List.length_take]; omega)
set_option maxRecDepth 100000 in
set_option maxHeartbeats 4000000 in

theorem all_any (v : Value) (h : List Ev) (q : Int) (w : World) (hv : KE.IsL w w.heap.size v h) (hl : h.length ≤ 1000) :
    Calls Try.prog 11 #[v, .int .i64 q] w fun e w' => ∃ v', e = .returned v' ∧ KC.Own w' w.heap.size v' (allE h q) ∧ Below w.heap.size w w' := by
  have HV := Lib.hid hv
  obtain ⟨A, c, rfl, hc⟩ := hv.shape
  clear hv
  have HS := Lib.hid (fun k hk => all_snoc h q k hk)
  have HL := Lib.hid (fun k => allE_len h q k)
  have HE := Lib.hid (show allE (h.take h.length) q = allE h q by rw [List.take_length])
  go_enter Try.func11, Try.ntmps11
  go_wp2
  go_loopg [5, 6] h.length (fun gh u i wr => ∃ k : Nat, k ≤ h.length ∧ gh = h.length - k ∧ i = .int .i64 k ∧ KC.Own wr w.heap.size u (allE (h.take k) q) ∧ Below w.heap.size w wr)
  case atStart => exact ⟨0, Nat.zero_le _, rfl, rfl, Lk.Own.nil _ _, Below.refl _ _⟩
  case round =>
    obtain ⟨k, hk, rfl, rfl, hown, hbl⟩ := hrel
    have HO := Lib.hid hown
    have HB := Lib.hid hbl
    clear hown hbl
    by_cases hlt : k < h.length
    · have HSk := Lib.hid (HS.out k hlt)
      have HLk := Lib.hid (HL.out k)
      obtain ⟨b, off, rfl, hb, _, hcell⟩ := ev_cells (HV.out.then HB.out) (by omega)
      obtain ⟨e0, e1, e2, e3⟩ := hcell k hlt
      have HFO := Lib.hid ((HV.out.2.1 _ (getD_mem' h k ev0 hlt)))
      clear hcell
      generalize h.getD k ev0 = d at *
      generalize allE (h.take k) q = lst at *
      obtain ⟨dk, dw, dn, da⟩ := d
      simp only at e0 e1 e2 e3
      by_cases h1 : dk = q
      · rw [if_pos h1] at HSk
        subst h1
        have HOK := Lib.hid (show KC.ok (dw, dn) from ⟨HFO.out.2.1, HFO.out.2.2.1⟩)
        have HOF := Lib.hid (fun w => of_any ⟨dk, dw, dn, da⟩ w)
        go_wp2_with fail
        refine (HOF.out _).mono ?_
        rintro e w2 ⟨rfl, hb2⟩
        have HB2 := Lib.hid (Below.call HB.out hb2)
        have HO2 := Lib.hid (HO.out.below hb2)
        clear hb2
        go_wp2_with (at_builtin; refine Lk.wpList_app (K := KC) _ rfl _ _ rfl rfl w.heap.size (w2.heap.size + 1) _ _ lst [(dw, dn)] rfl rfl (HO2.out.alloc _) (Lk.IsL.lit (K := KC) _ (dw, dn) _ HOK.out rfl w2.heap.size rfl) ?c1 ?c2 ?_)
        case c1 => have := HLk.out; simp; omega
        case c2 => have := HB2.out.size; simp; omega
        intro v1 w4 hown hgrow _
        have HB4 := Lib.hid (Lk.Own.grow' (HO2.out.alloc _) (Below.al HB2.out _) (by have := HB2.out.size; simp; omega) hgrow)
        have HO4 := Lib.hid hown
        clear hown hgrow
        go_wp2
        go_roundg (h.length - (k + 1))
        case measure => omega
        case rel => exact ⟨k + 1, by omega, rfl, num_i (by omega), by rw [HSk.out]; exact HO4.out, HB4.out⟩
      · rw [if_neg h1, List.append_nil] at HSk
        go_wp2
        go_roundg (h.length - (k + 1))
        case measure => omega
        case rel => exact ⟨k + 1, by omega, rfl, num_i (by omega), by rw [HSk.out]; exact HO.out, HB.out⟩
    · obtain rfl : k = h.length := by omega
      go_wp2
      go_ret
      exact ⟨_, rfl, by rw [← HE.out]; exact HO.out, HB.out⟩
end Go.Proofs.Ytbfklpopodmalaa
