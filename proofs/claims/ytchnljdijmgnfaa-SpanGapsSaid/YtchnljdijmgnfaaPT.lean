/- What is in no span: the reference's Gaps. -/
import Derived.Test.YtchnljdijmgnfaaPS
namespace Go.Proofs.Ytchnljdijmgnfaa
open Go.RowKit
theorem IsL.drew {w : World} {B : Nat} {v : Value} {xs : List (Int × Int)} (h : IsL w B v xs) : IsL w.drew B v xs := h
theorem grown_drew {w w' : World} {row : Option Nat} (h : w.grownBy w' row) : w.grownBy w'.drew row := ⟨h.os, h.tape, h.output, h.size, h.block⟩
theorem GapR.none {j : List (Int × Int)} {s : Int × Int} (h : s.2 < s.1) : GapR j s [] := ⟨norm_nil, fun n => by rw [mem_nil]; exact ⟨False.elim, fun t => by omega⟩, by simp, by simp⟩
def Gapped2 (w : World) (xs : List (Int × Int)) (s : Int × Int) (e : Ending) (w' : World) : Prop := ∃ v g, e = .returned v ∧ (∀ r, JoinR xs r → GapR r s g) ∧ IsL w' w'.heap.size v g ∧ Below w.heap.size w w'

set_option maxRecDepth 100000 in
set_option maxHeartbeats 4000000 in
theorem rgaps_0 (v : Value) (xs : List (Int × Int)) (s : Int × Int) (w : World) (he : s.2 < s.1) :
    Calls Try.prog 25 #[v, .agg #[.int .i64 s.1, .int .i64 s.2]] w (Gapped2 w xs s) := by
  have HE := Lib.hid he
  have hd : decide (s.2 < s.1) = true := by simpa using he
  clear he
  go_enter Try.func25, Try.ntmps25
  go_wp2
  go_ret
  exact ⟨_, [], rfl, fun r _ => GapR.none HE.out, IsL.nil _ _ _ _, (Below.refl _ _).alloc (Nat.le_refl _) _⟩
set_option maxRecDepth 100000 in
set_option maxHeartbeats 4000000 in
theorem rgaps_1 (v : Value) (xs : List (Int × Int)) (s : Int × Int) (hs : fits s.1 ∧ fits s.2) (w : World) (h : IsL w w.heap.size v xs) (hl : xs.length ≤ 1000) (hne : s.1 ≤ s.2) :
    Calls Try.prog 25 #[v, .agg #[.int .i64 s.1, .int .i64 s.2]] w (Gapped w xs s) := by
  have HV := Lib.hid h
  have HS := Lib.hid hs
  have C0 := Lib.hid (cell2_new w s)
  have B0 := Lib.hid ((Below.refl w.heap.size w).alloc (Nat.le_refl _) (.cells #[.int .i64 s.1, .int .i64 s.2] 23))
  have hd : decide (s.2 < s.1) = false := by (rw [decide_eq_false_iff_not]; omega)
  have HNE := Lib.hid hne
  clear h hs hne
  obtain ⟨s1, s2⟩ := s
  go_enter Try.func25, Try.ntmps25
  go_wp2_with fail
  refine (rjoin_any v xs _ (HV.out.then B0.out) hl).mono ?_
  rintro e w3 ⟨vj, r, rfl, hj, hvj, hb3, hn3⟩
  have HJ := Lib.hid hj
  have C3 := Lib.hid (C0.out.below hb3)
  have B3 := Lib.hid (Below.call B0.out hb3)
  obtain ⟨⟨A, cap, rfl, hcap, hA⟩, hfit, hlen⟩ := hvj
  have HA := Lib.hid hA
  have HF := Lib.hid hfit
  have HN3 := Lib.hid hn3
  have hrl : (r.length : Int) ≤ 1000 := by have := hj.len; omega
  clear hj hb3 hA hfit hn3
  go_wp2
  go_loopw [5, 7] (fun t i wr => ∃ (k : Nat) (g : List (Int × Int)) (rest : Int × Int), k ≤ r.length ∧ i = .int .i64 (k : Int) ∧ Own wr w3.heap.size t g ∧ GInv r (s1, s2) k rest g ∧ Cell2 wr w.heap.size rest ∧ w3.grownBy wr (some w.heap.size) ∧ rest.1 ≤ rest.2) (fun _ i _ => r.length - (intOf i).toNat)
  case atStart => exact ⟨0, [], (s1, s2), Nat.zero_le _, rfl, Own.nil _ _, GInv.start _ _ HS.out, C3.out, World.grownBy.refl _ _, HNE.out⟩
  case round =>
    obtain ⟨k, g, rest, hk, rfl, hown, hinv, hcell, hgr, hrn⟩ := hrel
    have HO := Lib.hid hown
    have HI := Lib.hid hinv
    have HC := Lib.hid hcell
    have HG := Lib.hid hgr
    have HRN := Lib.hid hrn
    have c0 := hcell.c0
    have c1 := hcell.c1
    have f0 := hcell.f0
    have f1 := hcell.f1
    have hrlt := hcell.lt
    obtain ⟨wo, hwo⟩ : ∃ wo, wo = wr := ⟨_, rfl⟩
    subst hwo
    by_cases hlt : k < r.length
    · obtain ⟨b, off, rfl, hbB, hcells⟩ := HA.out (by omega)
      have hbn : w.heap.size < b := by have := HN3.out b rfl; simp at this; omega
      have hx1 : wo.cell? ⟨b, off + k * 2, none⟩ = some (.int .i64 (r.getD k (0, 0)).1) := (hgr.cell_far ⟨b, off + k * 2, none⟩ hbB (by simp; omega)).trans (hcells k hlt).1
      have hx2 : wo.cell? ⟨b, off + k * 2 + 1, none⟩ = some (.int .i64 (r.getD k (0, 0)).2) := (hgr.cell_far ⟨b, off + k * 2 + 1, none⟩ hbB (by simp; omega)).trans (hcells k hlt).2
      have HFX := Lib.hid (getD_fits HF.out k)
      have HPS := Lib.hid (hinv.pass hlt)
      have HCT := Lib.hid (hinv.cut HJ.out.norm hlt)
      have HLT := Lib.hid (hinv.last HJ.out.norm hlt)
      have HXN := Lib.hid (norm_ne HJ.out.norm k hlt)
      clear hcells hown hinv hgr hcell
      generalize r.getD k (0, 0) = x at *
      by_cases h1 : x.2 < rest.1
      · have HP := Lib.hid (HPS.out (fun n a1 a2 => by omega))
        have hd1 : decide (x.2 < rest.1) = true := by simpa using h1
        clear h1 hrn
        go_wp2
        go_quiet (fail)
        go_wp2
        go_roundw
        case rel => exact ⟨k + 1, g, rest, by omega, num_i (by omega), HO.out, HP.out, Cell2.same HC.out rfl, grown_drewN HG.out _, HRN.out⟩
        case measure => simp [intOf]; omega
      · have hd1 : decide (x.2 < rest.1) = false := by simpa using h1
        by_cases h2 : rest.2 < x.1
        · have HP := Lib.hid (HPS.out (fun n a1 a2 => by omega))
          have hd2 : decide (rest.2 < x.1) = true := by simpa using h2
          clear h1 h2 hrn
          go_wp2
          go_quiet (fail)
          go_wp2
          go_roundw
          case rel => exact ⟨k + 1, g, rest, by omega, num_i (by omega), HO.out, HP.out, Cell2.same HC.out rfl, grown_drewN HG.out _, HRN.out⟩
          case measure => simp [intOf]; omega
        · have hd2 : decide (rest.2 < x.1) = false := by simpa using h2
          have HLS := Lib.hid (fun (he : rest.2 ≤ x.2) => HLT.out (max x.1 rest.1) (min x.2 rest.2) rfl rfl (by have := HXN.out; omega) (by omega) HFX.out.1)
          have HCS := Lib.hid (fun (he : x.2 < rest.2) => (show min x.2 rest.2 = x.2 by omega) ▸ HCT.out (max x.1 rest.1) (min x.2 rest.2) rfl rfl (by have := HXN.out; omega) (by omega) HFX.out.1)
          by_cases h3 : rest.1 < x.1
          · have HA2 := Lib.hid (show addG g rest.1 (max x.1 rest.1) = g ++ [(rest.1, x.1 - 1)] by rw [addG, if_pos (by omega), show max x.1 rest.1 = x.1 by omega])
            have hd0 : decide (rest.1 < x.1) = true := by simpa using h3
            have hlw : IntKind.i64.wrap (x.1 - 1) = x.1 - 1 := by have q1 := HFX.out.1; have q2 := HI.out.rfit; simp only [IntKind.wrap_i64]; unfold fits at q1 q2; omega
            have HFG := Lib.hid (show fits rest.1 ∧ fits (x.1 - 1) by have q1 := HFX.out.1; have q2 := HI.out.rfit; unfold fits at *; omega)
            clear h1 h2 h3 hrn
            go_wp2
            go_quiet (fail)
            obtain ⟨n1, hn1⟩ : ∃ n1, n1 = nq := ⟨_, rfl⟩
            subst hn1
            go_wp2
            go_quiet (fail)
            go_wp2
            obtain ⟨wq, hwq⟩ : ∃ wq, wq = (wo.drewN n1).drewN nq := ⟨_, rfl⟩
            first | rw [← hwq] | rw [← World.drewN_drewN, ← hwq]
            have OQ := Lib.hid (show Own wq w3.heap.size u5 g by rw [hwq]; exact HO.out)
            have CQ := Lib.hid (show Cell2 wq w.heap.size rest by rw [hwq]; exact Cell2.same HC.out rfl)
            have GQ := Lib.hid (show w3.grownBy wq (some w.heap.size) by rw [hwq]; exact grown_drewN (grown_drewN HG.out _) _)
            have y0 : wq.cell? ⟨b, off + k * 2, none⟩ = some (.int .i64 x.1) := by rw [hwq]; exact hx1
            have y1 : wq.cell? ⟨b, off + k * 2 + 1, none⟩ = some (.int .i64 x.2) := by rw [hwq]; exact hx2
            have z0 : wq.cell? ⟨w.heap.size, 0, none⟩ = some (.int .i64 rest.1) := CQ.out.c0
            clear hwq hx1 hx2 c0 c1 f0 f1
            go_region_held3 (fun w' => w'.cell? ⟨b, off + k * 2, none⟩ = some (.int .i64 x.1) ∧ w'.cell? ⟨w.heap.size, 0, none⟩ = some (.int .i64 rest.1)) (first | exact ⟨y0, z0⟩ | go_keep | (go_split_ands; refine ⟨hg4.cell ?_ (OQ.out.ne_lt hbB), hg4.cell ?_ (OQ.out.ne_lt C3.out.lt)⟩ <;> (first | assumption | go_keep)))
              (first
                | (refine step_app (by rfl) (.tmp 48) (.tmp 58) (by rfl) w3.heap.size (wq.heap.size + 1) _ _ g [(rest.1, x.1 - 1)] (by rfl) (by rfl) (OQ.out.alloc _).drew (IsL.litH wq wq.heap.size rest.1 (x.1 - 1) HFG.out.1 HFG.out.2 rfl).drew (by have := HI.out.len; simp; omega) (by have := GQ.out.size; simp; omega) ?_; intro v4 w4 hown4 hg4; have hg5 := (grown_drew (grown_alloc GQ.out (.cells #[.int .i64 rest.1, .int .i64 (x.1 - 1)] 23))).andThen hg4 (fun q hq => .inl (OQ.out.lt q hq).1)))
            have O4 := Lib.hid hown4
            have C4 := Lib.hid ((show Cell2 (wq.alloc (.cells #[.int .i64 rest.1, .int .i64 (x.1 - 1)] 23)).drew w.heap.size rest from (CQ.out.alloc _).drew).grown hg4 (OQ.out.ne_lt C3.out.lt))
            have G4 := Lib.hid hg5
            have yy1 : w4.cell? ⟨b, off + k * 2 + 1, none⟩ = some (.int .i64 x.2) := hg4.cell (show (wq.alloc (.cells #[.int .i64 rest.1, .int .i64 (x.1 - 1)] 23)).drew.cell? ⟨b, off + k * 2 + 1, none⟩ = _ by go_keep) (OQ.out.ne_lt hbB)
            have yy0 : w4.cell? ⟨b, off + k * 2, none⟩ = some (.int .i64 x.1) := hg4.cell (show (wq.alloc (.cells #[.int .i64 rest.1, .int .i64 (x.1 - 1)] 23)).drew.cell? ⟨b, off + k * 2, none⟩ = _ by go_keep) (OQ.out.ne_lt hbB)
            have zz0 := C4.out.c0
            have zz1 := C4.out.c1
            have zz2 := C4.out.f0
            have zz3 := C4.out.f1
            clear hown4 hg4 hg5 y0 y1 z0
            go_wp2
            by_cases he : rest.2 ≤ x.2
            · have HR := Lib.hid (HA2.out ▸ HLS.out he)
              have hd3 : decide (rest.2 ≤ x.2) = true := by simpa using he
              clear he
              go_quiet (fail)
              go_wp2
              go_ret
              exact ⟨_, r, (g ++ [(rest.1, x.1 - 1)]), rfl, HJ.out, HR.out, (O4.out.drewN _).isL (by have := HR.out.len; have := HJ.out.len; omega), B3.out.grown (grown_drewN G4.out _) B3.out.size (fun q hq => by have e : w.heap.size = q := Option.some.inj hq; omega)⟩
            · have HR := Lib.hid (HA2.out ▸ HCS.out (by omega))
              have hd3 : decide (rest.2 ≤ x.2) = false := by simpa using he
              have HE := Lib.hid he
              have hb1 : -9223372036854775808 ≤ x.2 := HFX.out.2.1
              have hb2 : x.2 ≤ 9223372036854775806 := by have h2 := HI.out.rfit.2.2; omega
              clear he
              go_quiet (fail)
              go_wp2
              go_roundw
              case rel => exact ⟨k + 1, (g ++ [(rest.1, x.1 - 1)]), (x.2 + 1, rest.2), by omega, num_i (by omega), (O4.out.drewN nq).kept (grown_set (World.grownBy.refl _ _)) (.inr (O4.out.ne_lt C3.out.lt).symm), HR.out, (Cell2.same (w' := w4.drewN nq) C4.out rfl).set0 (x.2 + 1), grown_set (grown_drewN G4.out nq), by have := HE.out; simp only; omega⟩
              case measure => simp [intOf]; omega
          · have HA2 := Lib.hid (show addG g rest.1 (max x.1 rest.1) = g by rw [addG, if_neg (by omega)])
            have hd0 : decide (rest.1 < x.1) = false := by simpa using h3
            clear h1 h2 h3 hrn
            go_wp2
            go_quiet (fail)
            obtain ⟨n1, hn1⟩ : ∃ n1, n1 = nq := ⟨_, rfl⟩
            subst hn1
            go_wp2
            go_quiet (fail)
            go_wp2
            obtain ⟨wq, hwq⟩ : ∃ wq, wq = (wo.drewN n1).drewN nq := ⟨_, rfl⟩
            first | rw [← hwq] | rw [← World.drewN_drewN, ← hwq]
            have O4 := Lib.hid (show Own wq w3.heap.size u5 g by rw [hwq]; exact HO.out)
            have C4 := Lib.hid (show Cell2 wq w.heap.size rest by rw [hwq]; exact Cell2.same HC.out rfl)
            have G4 := Lib.hid (show w3.grownBy wq (some w.heap.size) by rw [hwq]; exact grown_drewN (grown_drewN HG.out _) _)
            have y0 : wq.cell? ⟨b, off + k * 2, none⟩ = some (.int .i64 x.1) := by rw [hwq]; exact hx1
            have y1 : wq.cell? ⟨b, off + k * 2 + 1, none⟩ = some (.int .i64 x.2) := by rw [hwq]; exact hx2
            have z0 := C4.out.c0
            have z1 := C4.out.c1
            have z2 := C4.out.f0
            have z3 := C4.out.f1
            clear hwq hx1 hx2 c0 c1 f0 f1
            by_cases he : rest.2 ≤ x.2
            · have HR := Lib.hid (HA2.out ▸ HLS.out he)
              have hd3 : decide (rest.2 ≤ x.2) = true := by simpa using he
              clear he
              go_quiet (fail)
              go_wp2
              go_ret
              exact ⟨_, r, g, rfl, HJ.out, HR.out, (O4.out.drewN _).isL (by have := HR.out.len; have := HJ.out.len; omega), B3.out.grown (grown_drewN G4.out _) B3.out.size (fun q hq => by have e : w.heap.size = q := Option.some.inj hq; omega)⟩
            · have HR := Lib.hid (HA2.out ▸ HCS.out (by omega))
              have hd3 : decide (rest.2 ≤ x.2) = false := by simpa using he
              have HE := Lib.hid he
              have hb1 : -9223372036854775808 ≤ x.2 := HFX.out.2.1
              have hb2 : x.2 ≤ 9223372036854775806 := by have h2 := HI.out.rfit.2.2; omega
              clear he
              go_quiet (fail)
              go_wp2
              go_roundw
              case rel => exact ⟨k + 1, g, (x.2 + 1, rest.2), by omega, num_i (by omega), (O4.out.drewN nq).kept (grown_set (World.grownBy.refl _ _)) (.inr (O4.out.ne_lt C3.out.lt).symm), HR.out, (Cell2.same (w' := wq.drewN nq) C4.out rfl).set0 (x.2 + 1), grown_set (grown_drewN G4.out nq), by have := HE.out; simp only; omega⟩
              case measure => simp [intOf]; omega
    · obtain rfl : k = r.length := by omega
      have HR := Lib.hid (hinv.done1 hrn)
      have HRF := Lib.hid hinv.rfit
      have HLN := Lib.hid hinv.len
      clear hown hinv hcell hgr hrn
      go_wp2_with (at_builtin; refine wpList_app _ rfl _ _ rfl w3.heap.size (wo.heap.size + 1) _ _ g [(rest.1, rest.2)] rfl rfl (HO.out.alloc _) (IsL.litH wo wo.heap.size rest.1 rest.2 HRF.out.1 HRF.out.2 rfl) ?c1 ?c2 ?_)
      case c1 => have := HLN.out; simp; omega
      case c2 => have := HG.out.size; simp; omega
      intro v4 w4 hown4 hg4 _
      have O4 := Lib.hid hown4
      have G4 := Lib.hid ((grown_alloc HG.out (.cells #[.int .i64 rest.1, .int .i64 rest.2] 23)).andThen hg4 (fun q hq => .inl (HO.out.lt q hq).1))
      clear hown4 hg4
      go_wp2
      go_ret
      exact ⟨_, r, g ++ [rest], rfl, HJ.out, HR.out, O4.out.isL (by have := HLN.out; simp; omega), B3.out.grown G4.out B3.out.size (fun q hq => by have e : w.heap.size = q := Option.some.inj hq; omega)⟩
end Go.Proofs.Ytchnljdijmgnfaa
