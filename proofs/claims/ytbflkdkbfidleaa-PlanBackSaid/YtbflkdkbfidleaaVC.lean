/- Plans: the way back, as the reference tells it. -/
import Derived.Test.YtbflkdkbfidleaaVB
import Derived.Test.YtbflkdkbfidleaaTB
import Derived.Deep.LoopGhost
namespace Go.Proofs.Ytbflkdkbfidleaa
open Go.RowKit
/-- The deed that gives an id back. -/
def frD (x : Int) : Int × Int := (4, x)
def mkL (l : Bool) (x : Int) : List (Int × Int) := if l then [(1, x), (2, x)] else [(1, x)]
def bkV (ids : List Int) (k : Int) : List (Int × Int) := if decide (Two.Inc ids) then (ids.take (wi k ids.length)).reverse.map frD ++ [(5, 0)] else []
def mkV (ids : List Int) (l : Bool) : List (Int × Int) := if decide (Two.Inc ids) then ids.flatMap (mkL l) ++ [(3, 0)] ++ (ids.reverse.map frD ++ [(5, 0)]) else []
theorem mkL_len (l : Bool) (ids : List Int) : (ids.flatMap (mkL l)).length ≤ 2 * ids.length := by
  induction ids with
  | nil => simp
  | cons x r ih =>
    rw [List.flatMap_cons, List.length_append, List.length_cons]
    have : (mkL l x).length ≤ 2 := by unfold mkL; split <;> simp
    omega
theorem mkL_snoc (l : Bool) (ids : List Int) (k : Nat) (h : k < ids.length) : (ids.take (k + 1)).flatMap (mkL l) = (ids.take k).flatMap (mkL l) ++ mkL l (ids.getD k 0) := by
  rw [take_snoc ids k 0 h, List.flatMap_append]
  simp
theorem bk_step (ids : List Int) (n m : Nat) (h : m < ids.length) : ((ids.take n).drop m).reverse.map frD = ((ids.take n).drop (m + 1)).reverse.map frD ++ (if m < n then [frD (ids.getD m 0)] else []) := by
  by_cases hm : m < n
  · rw [if_pos hm, drop_snoc (ids.take n) m 0 (by rw [List.length_take]; omega), List.reverse_cons, List.map_append]
    congr 2
    simp [List.getD_eq_getElem?_getD, hm]
  · rw [if_neg hm, List.drop_eq_nil_of_le (by rw [List.length_take]; omega), List.drop_eq_nil_of_le (by rw [List.length_take]; omega)]
    rfl
set_option maxRecDepth 100000 in
set_option maxHeartbeats 4000000 in
theorem rback_any (v : Value) (ids : List Int) (k : Int) (w : World) (hv : KI.IsL w w.heap.size v ids) (hl : ids.length ≤ 1000) :
    Calls Try.prog 31 #[v, .int .i64 k] w fun e w' => ∃ v', e = .returned v' ∧ KD.Own w' w.heap.size v' (bkV ids k) ∧ Below w.heap.size w w' := by
  have HV := Lib.hid hv
  have HR := Lib.hid (Two.rright_any v ids w (two_of hv))
  obtain ⟨A, c, rfl, hc⟩ := hv.shape
  have hS : bkV ids k = if decide (Two.Inc ids) then (ids.take (wi k ids.length)).reverse.map frD ++ [(5, 0)] else [] := rfl
  rw [hS]
  clear hS hv
  generalize decide (Two.Inc ids) = q at *
  cases q
  · simp only [Bool.false_eq_true, if_false]
    go_enter Try.func31, Try.ntmps31
    go_wp2_with fail
    refine HR.out.mono ?_
    rintro e w1 ⟨rfl, d, rfl⟩
    go_wp2
    go_ret
    exact ⟨_, rfl, Lk.Own.nil _ _, below_drewN (Below.refl _ _) _⟩
  simp only [if_true]
  have hwi : ∀ m : Nat, m < ids.length → (m < wi k ids.length ↔ (m : Int) < k) := fun m hm => by unfold wi; omega
  have HWI := Lib.hid hwi
  have HBS := Lib.hid (fun m h => bk_step ids (wi k ids.length) m h)
  have HB0 := Lib.hid (show ((ids.take (wi k ids.length)).drop ids.length).reverse.map frD = [] by rw [List.drop_eq_nil_of_le (by rw [List.length_take]; omega)]; rfl)
  have HLN := Lib.hid (fun m => show (((ids.take (wi k ids.length)).drop m).reverse.map frD).length ≤ ids.length by rw [List.length_map, List.length_reverse, List.length_drop, List.length_take]; omega)
  have HE := Lib.hid (show ((ids.take (wi k ids.length)).drop 0).reverse.map frD = (ids.take (wi k ids.length)).reverse.map frD by rw [List.drop_zero])
  clear hwi
  generalize wi k ids.length = n at *
  go_enter Try.func31, Try.ntmps31
  go_wp2_with fail
  refine HR.out.mono ?_
  rintro e w1 ⟨rfl, d, rfl⟩
  have HB1 := Lib.hid (below_drewN (Below.refl w.heap.size w) d)
  clear HR
  generalize w.drewN d = w1 at *
  go_wp2
  go_loopg [5, 6] ids.length (fun gh u i wr => ∃ m : Nat, m ≤ ids.length ∧ m = gh ∧ i = .int .i64 ((m : Int) - 1) ∧ KD.Own wr w.heap.size u (((ids.take n).drop m).reverse.map frD) ∧ Below w.heap.size w wr)
  case atStart => exact ⟨ids.length, Nat.le_refl _, rfl, rfl, by rw [HB0.out]; exact Lk.Own.nil _ _, HB1.out⟩
  case round =>
    obtain ⟨m, hm, hgh, rfl, hown, hbl⟩ := hrel
    subst hgh
    have HO := Lib.hid hown
    have HB := Lib.hid hbl
    clear hown hbl
    by_cases h0 : m = 0
    · subst h0
      have HOK := Lib.hid (show KD.ok (5, 0) from ⟨by decide, by decide⟩)
      rw [HE.out] at HO
      have HL := Lib.hid (show ((ids.take n).reverse.map frD).length ≤ ids.length by rw [List.length_map, List.length_reverse, List.length_take]; omega)
      obtain ⟨lst, hlst⟩ : ∃ lst, (ids.take n).reverse.map frD = lst := ⟨_, rfl⟩
      have HLS := Lib.hid hlst
      rw [hlst] at HO HL
      clear hlst
      go_wp2_with (at_builtin; refine Lk.wpList_app (K := KD) _ rfl _ _ rfl rfl w.heap.size (wr.heap.size + 1) _ _ lst [(5, 0)] rfl rfl (HO.out.alloc _) (Lk.IsL.lit (K := KD) _ (5, 0) _ HOK.out rfl wr.heap.size rfl) ?c1 ?c2 ?_)
      case c1 => have := HL.out; simp; omega
      case c2 => have := HB.out.size; simp; omega
      intro v1 w4 hown hgrow _
      have HB4 := Lib.hid (Lk.Own.grow' (HO.out.alloc _) (Below.al HB.out _) (by have := HB.out.size; simp; omega) hgrow)
      have HO4 := Lib.hid hown
      clear hown hgrow
      go_wp2
      go_ret
      exact ⟨_, rfl, by rw [HLS.out]; exact HO4.out, HB4.out⟩
    · obtain ⟨j, rfl⟩ : ∃ j, m = j + 1 := ⟨m - 1, by omega⟩
      have hj : j < ids.length := by omega
      have HS := Lib.hid (HBS.out j hj)
      have HW := Lib.hid (HWI.out j hj)
      have HL := Lib.hid (HLN.out (j + 1))
      obtain ⟨b, off, cap', hs, _, hb, _, hcell, hf⟩ := KI.cells (HV.out.then HB.out) (by omega)
      simp only [Value.slice.injEq] at hs
      obtain ⟨rfl, -, rfl⟩ := hs
      have e1 := hcell j hj
      have HOK := Lib.hid (show KD.ok (4, ids.getD j 0) from ⟨show fits 4 by decide, hf j hj⟩)
      clear hcell hf
      generalize ids.getD j 0 = x at *
      generalize ((ids.take n).drop (j + 1)).reverse.map frD = lst at *
      have hjw : ((j + 1 : Nat) : Int) - 1 = j := by omega
      rw [hjw]
      clear hjw
      by_cases hk : (j : Int) < k
      · rw [if_pos (HW.out.2 hk)] at HS
        go_wp2_with (at_builtin; refine Lk.wpList_app (K := KD) _ rfl _ _ rfl rfl w.heap.size (wr.heap.size + 1) _ _ lst [(4, x)] rfl rfl (HO.out.alloc _) (Lk.IsL.lit (K := KD) _ (4, x) _ HOK.out rfl wr.heap.size rfl) ?c1 ?c2 ?_)
        case c1 => have := HL.out; simp; omega
        case c2 => have := HB.out.size; simp; omega
        intro v1 w4 hown hgrow _
        have HB4 := Lib.hid (Lk.Own.grow' (HO.out.alloc _) (Below.al HB.out _) (by have := HB.out.size; simp; omega) hgrow)
        have HO4 := Lib.hid hown
        clear hown hgrow
        go_wp2
        go_roundg j
        case measure => omega
        case rel => exact ⟨j, by omega, rfl, rfl, by rw [HS.out]; exact HO4.out, HB4.out⟩
      · rw [if_neg (fun h => hk (HW.out.1 h)), List.append_nil] at HS
        go_wp2
        go_roundg j
        case measure => omega
        case rel => exact ⟨j, by omega, rfl, rfl, by rw [HS.out]; exact HO.out, HB.out⟩
end Go.Proofs.Ytbflkdkbfidleaa
