/- What is in no span: the program's Gaps. -/
import Derived.Test.YtchnljdijmgnfaaPK
import Derived.Test.YtchnljdijmgnfaaPG
import Derived.Maps.Range
import Derived.Deep.CutRange
namespace Go.Proofs.Ytchnljdijmgnfaa
open Go.RowKit
def Gapped (w : World) (xs : List (Int × Int)) (s : Int × Int) (e : Ending) (w' : World) : Prop := ∃ v r g, e = .returned v ∧ JoinR xs r ∧ GapR r s g ∧ IsL w' w'.heap.size v g ∧ Below w.heap.size w w'
/-- The two cells of a block that the call itself has made. -/
structure Cell2 (w : World) (B : Nat) (x : Int × Int) : Prop where
  c0 : w.cell? ⟨B, 0, none⟩ = some (.int .i64 x.1)
  c1 : w.cell? ⟨B, 1, none⟩ = some (.int .i64 x.2)
  f0 : w.frozen? ⟨B, 0, none⟩ = false
  f1 : w.frozen? ⟨B, 1, none⟩ = false
theorem Cell2.lt {w : World} {B : Nat} {x : Int × Int} (h : Cell2 w B x) : B < w.heap.size := World.block_lt_of_cell? w _ h.c0
theorem Cell2.same {w w' : World} {B : Nat} {x : Int × Int} (h : Cell2 w B x) (e : w'.heap[B]? = w.heap[B]?) : Cell2 w' B x :=
  ⟨(World.cell?_of_block (a := ⟨B, 0, none⟩) e).trans h.c0, (World.cell?_of_block (a := ⟨B, 1, none⟩) e).trans h.c1, (World.frozen?_of_block (a := ⟨B, 0, none⟩) e).trans h.f0, (World.frozen?_of_block (a := ⟨B, 1, none⟩) e).trans h.f1⟩
theorem Cell2.below {w w' : World} {B : Nat} {x : Int × Int} (h : Cell2 w B x) (hb : Below w.heap.size w w') : Cell2 w' B x := h.same (hb.block B h.lt)
theorem Cell2.grown {w w' : World} {B : Nat} {row : Option Nat} {x : Int × Int} (h : Cell2 w B x) (hg : w.grownBy w' row) (hne : some B ≠ row) : Cell2 w' B x := h.same (hg.block B h.lt hne)
theorem Cell2.alloc {w : World} {B : Nat} {x : Int × Int} (h : Cell2 w B x) (o : Obj) : Cell2 (w.alloc o) B x := h.same (Below.heap_alloc w o B h.lt)
theorem Cell2.drew {w : World} {B : Nat} {x : Int × Int} (h : Cell2 w B x) : Cell2 w.drew B x := h.same rfl
theorem cell2_new (w : World) (x : Int × Int) : Cell2 (w.alloc (.cells #[.int .i64 x.1, .int .i64 x.2] 23)) w.heap.size x := by
  have h := heap_alloc_new w (.cells #[.int .i64 x.1, .int .i64 x.2] 23)
  refine ⟨by rw [cell_of_row _ w.heap.size _ _ _ (0, 0) h]; rfl, by rw [cell_of_row _ w.heap.size _ _ _ (0, 0) h]; rfl, ?_, ?_⟩
  · unfold World.frozen?; simp only [h]; rfl
  · unfold World.frozen?; simp only [h]; rfl

theorem Cell2.set0 {w : World} {B : Nat} {x : Int × Int} (h : Cell2 w B x) (c : Int) : Cell2 (w.setCell ⟨B, 0, none⟩ (.int .i64 c)) B (c, x.2) :=
  ⟨World.cell?_setCell_same _ _ _ h.c0, (World.cell?_setCell_other _ _ _ _ (by simp)).trans h.c1, by simpa using h.f0, by simpa using h.f1⟩
theorem Own.ne_lt {w : World} {base : Nat} {v : Value} {xs : List (Int × Int)} (h : Own w base v xs) {B : Nat} (hB : B < base) : some B ≠ v.ownBlock := fun e => by have := (h.lt B e.symm).1; omega
theorem Own.ne_ge {w : World} {base : Nat} {v : Value} {xs : List (Int × Int)} (h : Own w base v xs) {B : Nat} (hB : w.heap.size ≤ B) : some B ≠ v.ownBlock := fun e => by have := (h.lt B e.symm).2; omega
def Mid (R B1 base : Nat) (w3 : World) (rest c : Int × Int) (u : Value) (g : List (Int × Int)) (wc : World) : Prop := Cell2 wc R rest ∧ Cell2 wc B1 c ∧ Own wc base u g ∧ w3.grownBy wc (some R)
set_option maxRecDepth 100000 in
set_option maxHeartbeats 4000000 in
theorem gaps_any (v : Value) (xs : List (Int × Int)) (s : Int × Int) (hs : fits s.1 ∧ fits s.2) (w : World) (h : IsL w w.heap.size v xs) (hl : xs.length ≤ 1000) :
    Calls Try.prog 24 #[v, .agg #[.int .i64 s.1, .int .i64 s.2]] w (Gapped w xs s) := by
  have HV := Lib.hid h
  have HS := Lib.hid hs
  have C0 : Hid (Cell2 ((w.alloc (.cells #[.int .i64 s.1, .int .i64 s.2] 23)).alloc (.cells #[.int .i64 s.1, .int .i64 s.2] 23)) (w.heap.size + 1) s) := Lib.hid (by have h := cell2_new (w.alloc (.cells #[.int .i64 s.1, .int .i64 s.2] 23)) s; simpa using h)
  have B0 := Lib.hid (((Below.refl w.heap.size w).alloc (Nat.le_refl _) (.cells #[.int .i64 s.1, .int .i64 s.2] 23)).alloc (by simp) (.cells #[.int .i64 s.1, .int .i64 s.2] 23))
  clear h hs
  obtain ⟨s1, s2⟩ := s
  go_enter Try.func24, Try.ntmps24
  go_wp2
  go_step3
  go_wp2
  go_step3
  go_wp2_with fail
  refine (join_any v xs _ (HV.out.then B0.out) hl).mono ?_
  rintro e w3 ⟨vj, r, rfl, hj, hvj, hb3, hn3⟩
  have HJ := Lib.hid hj
  have C3 := Lib.hid (C0.out.below hb3)
  have B3 := Lib.hid (Below.call B0.out hb3)
  obtain ⟨⟨A, cap, rfl, hcap, hA⟩, hfit, hlen⟩ := hvj
  have HA := Lib.hid hA
  have HF := Lib.hid hfit
  have HN3 := Lib.hid hn3
  have hrl : (r.length : Int) ≤ 1000 := by have := hj.len; omega
  clear hj hb3 hA hfit hn3
  go_wp2
  go_loopw [5, 14] (fun t i wr => ∃ (k : Nat) (g : List (Int × Int)) (rest : Int × Int), k ≤ r.length ∧ i = .int .i64 (k : Int) ∧ Own wr w3.heap.size t g ∧ GInv r (s1, s2) k rest g ∧ Cell2 wr (w.heap.size + 1) rest ∧ w3.grownBy wr (some (w.heap.size + 1))) (fun _ i _ => r.length - (intOf i).toNat)
  case atStart => exact ⟨0, [], (s1, s2), Nat.zero_le _, rfl, Own.nil _ _, GInv.start _ _ HS.out, C3.out, World.grownBy.refl _ _⟩
  case round =>
    obtain ⟨k, g, rest, hk, rfl, hown, hinv, hcell, hgr⟩ := hrel
    have HO := Lib.hid hown
    have HI := Lib.hid hinv
    have HC := Lib.hid hcell
    have HG := Lib.hid hgr
    obtain ⟨wo, hwo⟩ : ∃ wo, wo = wr := ⟨_, rfl⟩
    subst hwo
    by_cases hlt : k < r.length
    · obtain ⟨b, off, rfl, hbB, hcells⟩ := HA.out (by omega)
      have hbn : w.heap.size + 1 < b := by have := HN3.out b rfl; simp at this; omega
      have hx1 : wo.cell? ⟨b, off + k * 2, none⟩ = some (.int .i64 (r.getD k (0, 0)).1) := (hgr.cell_far ⟨b, off + k * 2, none⟩ hbB (by simp; omega)).trans (hcells k hlt).1
      have hx2 : wo.cell? ⟨b, off + k * 2 + 1, none⟩ = some (.int .i64 (r.getD k (0, 0)).2) := (hgr.cell_far ⟨b, off + k * 2 + 1, none⟩ hbB (by simp; omega)).trans (hcells k hlt).2
      have HFX := Lib.hid (getD_fits HF.out k)
      have HPS := Lib.hid (hinv.pass hlt)
      have HCT := Lib.hid (hinv.cut HJ.out.norm hlt)
      have HLT := Lib.hid (hinv.last HJ.out.norm hlt)
      have HXN := Lib.hid (norm_ne HJ.out.norm k hlt)
      clear hcells hown hinv hgr
      generalize r.getD k (0, 0) = x at *
      have hr0 := hcell.c0
      have hr1 := hcell.c1
      have hrf0 := hcell.f0
      have hrf1 := hcell.f1
      have hrlt := hcell.lt
      clear hcell
      by_cases hno : min x.2 rest.2 < max x.1 rest.1
      · have HP := Lib.hid (HPS.out (fun n h1 h2 => by omega))
        have HCU := Lib.hid (fun W => cutV_no (a := x.1) (b := x.2) (c := rest.1) (d := rest.2) hno ▸ cut_any x rest W)
        clear hno
        go_wp2_with fail
        refine (HCU.out _).mono ?_
        rintro e w1 ⟨rfl, hb1⟩
        have C1 := Lib.hid ((HC.out.alloc (.cells #[.int .i64 x.1, .int .i64 x.2] 23)).below hb1)
        have O1 := Lib.hid ((HO.out.alloc (.cells #[.int .i64 x.1, .int .i64 x.2] 23)).below hb1)
        have G1 := Lib.hid (grown_below (grown_alloc HG.out (.cells #[.int .i64 x.1, .int .i64 x.2] 23)) hb1)
        have K1 := Lib.hid (cell2_new w1 (0, -1))
        clear hb1 hx1 hx2 hr0 hr1 hrf0 hrf1
        go_wp2
        go_region_with (go_at_call 39; refine (none_any _).mono ?_; rintro e w2 ⟨rfl, hb2⟩; have K2 := K1.out.drew.below hb2; have C2 := Lib.hid ((C1.out.alloc (.cells #[.int .i64 0, .int .i64 (-1)] 23)).drew.below hb2); have O2 := Lib.hid ((O1.out.alloc (.cells #[.int .i64 0, .int .i64 (-1)] 23)).drew.below hb2); have G2 := Lib.hid (grown_below (grown_drewN (grown_alloc G1.out (.cells #[.int .i64 0, .int .i64 (-1)] 23)) 1) hb2); have k0 := K2.c0; have k1 := K2.c1; clear K2 hb2)
        all_goals
          go_wp2
          go_roundw
          case rel => exact ⟨k + 1, g, rest, by omega, num_i (by omega), O2.out, HP.out, C2.out, G2.out⟩
          case measure => simp [intOf]; omega
      · obtain ⟨lo, hlo⟩ : ∃ lo, lo = max x.1 rest.1 := ⟨_, rfl⟩
        obtain ⟨hi, hhi⟩ : ∃ hi, hi = min x.2 rest.2 := ⟨_, rfl⟩
        have hle : lo ≤ hi := by omega
        have hcv : cutV (x.1, x.2) (rest.1, rest.2) = (lo, hi) := by rw [cutV_yes (by omega), hlo, hhi]
        have HCU := Lib.hid (fun W => (cut_any x rest W))
        have HCV := Lib.hid (show cutV x rest = (lo, hi) from hcv)
        rw [show cutV x rest = (lo, hi) from hcv] at HCU
        have HRF := Lib.hid HI.out.rfit
        have fx := HFX.out
        have fr := HRF.out
        have hf1 : fits lo := by unfold fits at *; omega
        have hf2 : fits hi := by unfold fits at *; omega
        have HF1 := Lib.hid hf1
        have HF2 := Lib.hid hf2
        have hne0 : lo = 0 → ¬ hi = -1 := fun _ => by omega
        have hra : rest.1 ≤ lo := by omega
        have hrb : hi ≤ rest.2 := by omega
        have HCT2 := Lib.hid (fun h => HCT.out lo hi hlo hhi hle h HFX.out.1)
        have HLT2 := Lib.hid (fun h => HLT.out lo hi hlo hhi hle h HFX.out.1)
        have HLE := Lib.hid hle
        have HRA := Lib.hid hra
        have HRB := Lib.hid hrb
        have hbo : ((lo == 0) = false) ∨ ((lo == 0) = true ∧ (hi == -1) = false) := by
          by_cases h0 : lo = 0
          · exact .inr ⟨by rw [beq_iff_eq]; exact h0, by rw [beq_eq_false_iff_ne]; omega⟩
          · exact .inl (by rw [beq_eq_false_iff_ne]; exact h0)
        clear hlo hhi hcv HCT HLT hno fx fr hf1 hf2 hne0 hle hra hrb
        go_wp2_with fail
        refine (HCU.out _).mono ?_
        rintro e w1 ⟨rfl, hb1⟩
        have C1 := Lib.hid ((HC.out.alloc (.cells #[.int .i64 x.1, .int .i64 x.2] 23)).below hb1)
        have O1 := Lib.hid ((HO.out.alloc (.cells #[.int .i64 x.1, .int .i64 x.2] 23)).below hb1)
        have G1 := Lib.hid (grown_below (grown_alloc HG.out (.cells #[.int .i64 x.1, .int .i64 x.2] 23)) hb1)
        have K1 := Lib.hid (cell2_new w1 (lo, hi))
        have HBO := Lib.hid hbo
        clear hb1 hx1 hx2 hr0 hr1 hrf0 hrf1 hbo
        go_wp2
        go_cut [21] from 22 to 50 (fun t wc => t = .bool false ∧ Mid (w.heap.size + 1) w1.heap.size w3.heap.size w3 rest (lo, hi) u5 g wc)
        case first =>
          rcases HBO.out with hb0 | ⟨hb0, hb00⟩
          all_goals
            go_region_with (go_at_call 39; refine (none_any _).mono ?_; rintro e w2 ⟨rfl, hb2⟩; have K2 := Lib.hid (K1.out.drew.below hb2); have C2 := Lib.hid ((C1.out.alloc (.cells #[.int .i64 lo, .int .i64 hi] 23)).drew.below hb2); have O2 := Lib.hid ((O1.out.alloc (.cells #[.int .i64 lo, .int .i64 hi] 23)).drew.below hb2); have G2 := Lib.hid (grown_below (grown_drewN (grown_alloc G1.out (.cells #[.int .i64 lo, .int .i64 hi] 23)) 1) hb2); have k0 := K2.out.c0; have k1 := K2.out.c1; clear hb2)
            all_goals
              go_wp2_with fail
              go_meet
              exact ⟨rfl, C2.out, K2.out, O2.out, G2.out⟩
        case rest =>
          obtain ⟨rfl, hc2, hk2, ho2, hg2⟩ := hcut
          have C2 := Lib.hid hc2
          have K2 := Lib.hid hk2
          have O2 := Lib.hid ho2
          have G2 := Lib.hid hg2
          have c0 := hc2.c0
          have c1 := hc2.c1
          have c2 := hc2.f0
          have c3 := hc2.f1
          have k0 := hk2.c0
          have k1 := hk2.c1
          clear hc2 hk2 ho2 hg2
          obtain ⟨w2, hw2⟩ : ∃ w2, w2 = wc := ⟨_, rfl⟩
          subst hw2
          by_cases ha : rest.1 < lo
          · have HA2 := Lib.hid (show addG g rest.1 lo = g ++ [(rest.1, lo - 1)] by rw [addG, if_pos ha])
            have hd : decide (rest.1 < lo) = true := by simpa using ha
            have hlw : IntKind.i64.wrap (lo - 1) = lo - 1 := by have h1 := HF1.out; have h2 := HRF.out; simp only [IntKind.wrap_i64]; unfold fits at h1 h2; omega
            have HFG := Lib.hid (show fits rest.1 ∧ fits (lo - 1) by have h1 := HF1.out; have h2 := HRF.out; unfold fits at *; omega)
            clear ha
            go_wp2_with (at_builtin; refine wpList_app _ rfl _ _ rfl w3.heap.size (w2.heap.size + 1) _ _ g [(rest.1, lo - 1)] rfl rfl (O2.out.alloc _) (IsL.litH w2 w2.heap.size rest.1 (lo - 1) HFG.out.1 HFG.out.2 rfl) ?c1 ?c2 ?_)
            case c1 => have := HI.out.len; simp; omega
            case c2 => have := G2.out.size; simp; omega
            intro v4 w4 hown4 hg4 _
            have O4 := Lib.hid hown4
            have C4 := Lib.hid ((C2.out.alloc (.cells #[.int .i64 rest.1, .int .i64 (lo - 1)] 23)).grown hg4 (O2.out.ne_lt C3.out.lt))
            have K4 := Lib.hid ((K2.out.alloc (.cells #[.int .i64 rest.1, .int .i64 (lo - 1)] 23)).grown hg4 (O1.out.ne_ge (Nat.le_refl _)))
            have G4 := Lib.hid ((grown_alloc G2.out (.cells #[.int .i64 rest.1, .int .i64 (lo - 1)] 23)).andThen hg4 (fun q hq => .inl (O2.out.lt q hq).1))
            have d0 := C4.out.c0
            have d1 := C4.out.c1
            have d2 := C4.out.f0
            have d3 := C4.out.f1
            have d4 := K4.out.c0
            have d5 := K4.out.c1
            clear hown4 hg4 c0 c1 c2 c3 k0 k1
            by_cases he : hi = rest.2
            · have HR := Lib.hid (HA2.out ▸ HLT2.out he)
              have hde : (hi == rest.2) = true := by rw [beq_iff_eq]; exact he
              clear he
              go_wp2_with fail
              refine (none_any _).mono ?_
              rintro e w5 ⟨rfl, hb5⟩
              have C5 := Lib.hid (C4.out.below hb5)
              have O5 := Lib.hid (O4.out.below hb5)
              have G5 := Lib.hid (grown_below G4.out hb5)
              have e0 := C5.out.c0
              have e1 := C5.out.c1
              have e2 := C5.out.f0
              have e3 := C5.out.f1
              clear hb5
              go_wp2_with fail
              refine (empty_any _ _ _).mono ?_
              rintro e w6 ⟨rfl, hb6⟩
              have O6 := Lib.hid (((O5.out.kept (grown_set (u := .int .i64 0) (j := 0) (World.grownBy.refl _ _)) (.inr (O5.out.ne_lt C3.out.lt).symm)).kept (grown_set (u := .int .i64 (-1)) (j := 1) (World.grownBy.refl _ _)) (.inr (by exact (O5.out.ne_lt C3.out.lt).symm))).below hb6)
              have G6 := Lib.hid (grown_below (grown_set (u := .int .i64 (-1)) (j := 1) (grown_set (u := .int .i64 0) (j := 0) G5.out)) hb6)
              clear hb6
              go_wp2
              go_ret
              exact ⟨_, r, (g ++ [(rest.1, lo - 1)]), rfl, HJ.out, HR.out, O6.out.isL (by have := HR.out.len; omega), B3.out.grown G6.out B3.out.size (fun q hq => by have e : w.heap.size + 1 = q := Option.some.inj hq; omega)⟩
            · have HR := Lib.hid (HA2.out ▸ HCT2.out he)
              have hde : (hi == rest.2) = false := by rw [beq_eq_false_iff_ne]; exact he
              have hb1 : -9223372036854775808 ≤ hi := HF2.out.1
              have hb2 : hi ≤ 9223372036854775806 := by have h1 := HRB.out; have h2 := HRF.out.2.2; omega
              clear he
              go_wp2
              go_roundw
              case rel => exact ⟨k + 1, (g ++ [(rest.1, lo - 1)]), (hi + 1, rest.2), by omega, num_i (by omega), O4.out.kept (grown_set (World.grownBy.refl _ _)) (.inr (O4.out.ne_lt C3.out.lt).symm), HR.out, C4.out.set0 (hi + 1), grown_set G4.out⟩
              case measure => simp [intOf]; omega
          · have HA2 := Lib.hid (show addG g rest.1 lo = g by rw [addG, if_neg ha])
            have hd : decide (rest.1 < lo) = false := by simpa using ha
            clear ha
            by_cases he : hi = rest.2
            · have HR := Lib.hid (HA2.out ▸ HLT2.out he)
              have hde : (hi == rest.2) = true := by rw [beq_iff_eq]; exact he
              clear he
              go_wp2_with fail
              refine (none_any _).mono ?_
              rintro e w5 ⟨rfl, hb5⟩
              have C5 := Lib.hid (C2.out.below hb5)
              have O5 := Lib.hid (O2.out.below hb5)
              have G5 := Lib.hid (grown_below G2.out hb5)
              have e0 := C5.out.c0
              have e1 := C5.out.c1
              have e2 := C5.out.f0
              have e3 := C5.out.f1
              clear hb5
              go_wp2_with fail
              refine (empty_any _ _ _).mono ?_
              rintro e w6 ⟨rfl, hb6⟩
              have O6 := Lib.hid (((O5.out.kept (grown_set (u := .int .i64 0) (j := 0) (World.grownBy.refl _ _)) (.inr (O5.out.ne_lt C3.out.lt).symm)).kept (grown_set (u := .int .i64 (-1)) (j := 1) (World.grownBy.refl _ _)) (.inr (by exact (O5.out.ne_lt C3.out.lt).symm))).below hb6)
              have G6 := Lib.hid (grown_below (grown_set (u := .int .i64 (-1)) (j := 1) (grown_set (u := .int .i64 0) (j := 0) G5.out)) hb6)
              clear hb6
              go_wp2
              go_ret
              exact ⟨_, r, g, rfl, HJ.out, HR.out, O6.out.isL (by have := HR.out.len; omega), B3.out.grown G6.out B3.out.size (fun q hq => by have e : w.heap.size + 1 = q := Option.some.inj hq; omega)⟩
            · have HR := Lib.hid (HA2.out ▸ HCT2.out he)
              have hde : (hi == rest.2) = false := by rw [beq_eq_false_iff_ne]; exact he
              have hb1 : -9223372036854775808 ≤ hi := HF2.out.1
              have hb2 : hi ≤ 9223372036854775806 := by have h1 := HRB.out; have h2 := HRF.out.2.2; omega
              clear he
              go_wp2
              go_roundw
              case rel => exact ⟨k + 1, g, (hi + 1, rest.2), by omega, num_i (by omega), O2.out.kept (grown_set (World.grownBy.refl _ _)) (.inr (O2.out.ne_lt C3.out.lt).symm), HR.out, C2.out.set0 (hi + 1), grown_set G2.out⟩
              case measure => simp [intOf]; omega
    · obtain rfl : k = r.length := by omega
      have c0 := hcell.c0
      have c1 := hcell.c1
      have HLN := Lib.hid hinv.len
      have hrf := hinv.rfit
      have HRF := Lib.hid hrf
      by_cases he : rest.2 < rest.1
      · have HD := Lib.hid (hinv.done0 he)
        have hde : decide (rest.2 < rest.1) = true := by simpa using he
        clear hown hinv hcell hgr he hrf
        go_wp2_with fail
        refine (empty_any _ _ _).mono ?_
        rintro e w6 ⟨rfl, hb6⟩
        have O6 := Lib.hid (HO.out.below hb6)
        have G6 := Lib.hid (grown_below HG.out hb6)
        clear hb6
        go_wp2
        go_ret
        exact ⟨_, r, g, rfl, HJ.out, HD.out, O6.out.isL (by have := HLN.out; omega), B3.out.grown G6.out B3.out.size (fun q hq => by have e : w.heap.size + 1 = q := Option.some.inj hq; omega)⟩
      · have HD := Lib.hid (hinv.done1 (by omega))
        have hde : decide (rest.2 < rest.1) = false := by simpa using he
        clear hown hinv hcell hgr he hrf
        go_wp2_with fail
        refine (empty_any _ _ _).mono ?_
        rintro e w6 ⟨rfl, hb6⟩
        have O6 := Lib.hid (HO.out.below hb6)
        have G6 := Lib.hid (grown_below HG.out hb6)
        have C6 := HC.out.below hb6
        have d0 := C6.c0
        have d1 := C6.c1
        clear hb6 C6
        go_wp2_with (at_builtin; refine wpList_app _ rfl _ _ rfl w3.heap.size (w6.heap.size + 1) _ _ g [(rest.1, rest.2)] rfl rfl (O6.out.alloc _) (IsL.litH w6 w6.heap.size rest.1 rest.2 HRF.out.1 HRF.out.2 rfl) ?c1 ?c2 ?_)
        case c1 => have := HLN.out; simp; omega
        case c2 => have := G6.out.size; simp; omega
        intro v4 w4 hown4 hg4 _
        have O4 := Lib.hid hown4
        have G4 := Lib.hid ((grown_alloc G6.out (.cells #[.int .i64 rest.1, .int .i64 rest.2] 23)).andThen hg4 (fun q hq => .inl (O6.out.lt q hq).1))
        clear hown4 hg4
        go_wp2
        go_ret
        exact ⟨_, r, g ++ [rest], rfl, HJ.out, HD.out, O4.out.isL (by have := HLN.out; simp; omega), B3.out.grown G4.out B3.out.size (fun q hq => by have e : w.heap.size + 1 = q := Option.some.inj hq; omega)⟩
end Go.Proofs.Ytchnljdijmgnfaa
