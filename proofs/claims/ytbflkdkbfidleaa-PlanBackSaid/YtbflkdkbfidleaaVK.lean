/- Plans: whether deeds are two-phased: the program. -/
import Derived.Test.YtbflkdkbfidleaaVJ
import Derived.Test.YtbflkdkbfidleaaVD
namespace Go.Proofs.Ytbflkdkbfidleaa
open Go.RowKit Go.Maps
theorem stS_len {p : Int} {h : List Int} {d : Int × Int} {q : Int} {g : List Int} (e : stS p h d = some (q, g)) : g.length ≤ h.length + 1 := by
  unfold stS at e
  repeat' split at e
  all_goals first
    | (simp only [Option.some.injEq, Prod.mk.injEq] at e; obtain ⟨_, rfl⟩ := e; first | (simp; done) | (exact Nat.le_trans (List.length_filter_le _ _) (Nat.le_succ _)) | omega)
    | cases e
theorem hm_new (w : World) : Hm (w.alloc (.map #[] 0)) w.heap.size 0 [] := ⟨_, World.ownsMap_made w Try.prog 3 _, Rp.nil⟩
theorem wk_new (w : World) : Wk ((w.alloc (.map #[] 0)).alloc (.cells #[.int .i64 0, .map (some w.heap.size), .int .i64 0] 65)) (w.heap.size + 1) w.heap.size 0 0 [] 0 := by
  refine ⟨by simp [go_sem], by simp [go_sem], by simp [go_sem], by simp [go_sem], by simp [go_sem], by simp, by omega, ?_⟩
  exact (hm_new w).kept (World.grownBy_alloc _ _ none) (by simp)
set_option maxRecDepth 100000 in
set_option maxHeartbeats 4000000 in
theorem two_any (v : Value) (l : List (Int × Int)) (w : World) (hv : KD.IsL w w.heap.size v l) (hl : l.length ≤ 900) :
    Calls Try.prog 34 #[v] w fun e w' => e = .returned (.bool (twV l)) ∧ Below w.heap.size w w' := by
  have HV := Lib.hid hv
  obtain ⟨A, c, rfl, hc⟩ := hv.shape
  have hl2 := hv.2.2
  have hS : twV l = tw 0 [] l := rfl
  rw [hS]
  clear hS hv
  obtain ⟨z, hz⟩ : ∃ z, tw 0 [] l = z := ⟨_, rfl⟩
  rw [hz]
  have HZ0 := Lib.hid hz
  clear hz
  have hmm := @run_makeMap Try.prog
  have HW0 := Lib.hid (wk_new w)
  have HB0 := Lib.hid (show Below w.heap.size w ((w.alloc (.map #[] 0)).alloc (.cells #[.int .i64 0, .map (some w.heap.size), .int .i64 0] 65)) from Below.al (Below.al (Below.refl _ _) _) _)
  go_enter Try.func34, Try.ntmps34
  go_wp2
  go_loopg [10] l.length (fun gh i wr => ∃ (k : Nat) (p : Int) (h : List Int) (la : Int), k ≤ l.length ∧ gh = l.length - k ∧ i = .int .i64 k ∧ Wk wr (w.heap.size + 1) w.heap.size k p h la ∧ (0 ≤ p ∧ p ≤ 2) ∧ h.length ≤ k ∧ (p = 0 → (h = [] ∨ (la ∈ h ∧ ∀ y ∈ h, y ≤ la))) ∧ tw p h (l.drop k) = z ∧ Below w.heap.size w wr)
  case atStart => exact ⟨0, 0, [], 0, Nat.zero_le _, rfl, rfl, HW0.out, by decide, Nat.le_refl _, fun _ => .inl rfl, HZ0.out, HB0.out⟩
  case round =>
    obtain ⟨k, p, h, la, hk, rfl, rfl, hwk, hp, hlen, hla, htw, hbl⟩ := hrel
    have HW := Lib.hid hwk
    have HP := Lib.hid hp
    have HL := Lib.hid hlen
    have HLA := Lib.hid hla
    have HTW := Lib.hid htw
    have HB := Lib.hid hbl
    clear hwk hp hlen hla htw hbl
    by_cases hlt : k < l.length
    · rw [drop_snoc l k (0, 0) hlt] at HTW
      obtain ⟨b, off, rfl, hb, _, hcell⟩ := dd_cells (HV.out.then HB.out) (by omega)
      obtain ⟨e0, e1⟩ := hcell k hlt
      have HF := Lib.hid ((HV.out.2.1 _ (getD_mem' l k (0, 0) hlt)).2)
      clear hcell
      generalize l.getD k (0, 0) = d at *
      obtain ⟨r, hr⟩ : ∃ r, l.drop (k + 1) = r := ⟨_, rfl⟩
      have HRR := Lib.hid hr
      rw [hr] at HTW
      clear hr
      obtain ⟨d1, d2⟩ := d
      simp only at e0 e1 HF
      have HSL := Lib.hid (fun q g => stS_len (p := p) (h := h) (d := (d1, d2)) (q := q) (g := g))
      obtain ⟨wo, hwo⟩ : ∃ wo, wo = wr.alloc (.cells #[.int .i64 d1, .int .i64 d2] 48) := ⟨_, rfl⟩
      have HWO := Lib.hid (show Wk wo (w.heap.size + 1) w.heap.size k p h la by rw [hwo]; exact HW.out.kept (World.grownBy_alloc _ _ none))
      have HBO := Lib.hid (show Below w.heap.size w wo by rw [hwo]; exact Below.al HB.out _)
      have HST := Lib.hid (step_any wo (w.heap.size + 1) w.heap.size k w.heap.size p h la d1 d2 HWO.out HP.out HF.out (by omega) (by have := HL.out; omega) (by omega) (Nat.le_refl _) HBO.out.size HLA.out)
      cases hst : stS p h (d1, d2) with
      | none =>
        have HE := Lib.hid (show z = false by rw [← HTW.out, tw_none hst])
        rw [hst] at HST
        clear hst
        go_wp2_with fail
        rw [← hwo]
        clear hwo
        refine HST.out.mono ?_
        rintro e w2 ⟨rfl, _, hb2⟩
        go_wp2
        go_ret
        exact ⟨ret_b HE.out.symm, HBO.out.trans hb2⟩
      | some qg =>
        obtain ⟨q, g⟩ := qg
        have HT2 := Lib.hid (show tw q g r = z by rw [← HTW.out, tw_some hst])
        have HGL := Lib.hid (HSL.out q g hst)
        rw [hst] at HST
        clear hst
        go_wp2_with fail
        rw [← hwo]
        clear hwo
        refine HST.out.mono ?_
        rintro e w2 ⟨rfl, hk2, hb2⟩
        obtain ⟨l', hk3, hi3, hr3⟩ := hk2 q g rfl
        have HK3 := Lib.hid hk3
        have HI3 := Lib.hid hi3
        have HR3 := Lib.hid hr3
        have HB2 := Lib.hid (HBO.out.trans hb2)
        clear hk2 hk3 hi3 hr3 hb2
        go_wp2
        go_roundg (l.length - (k + 1))
        case measure => omega
        case rel => exact ⟨k + 1, q, g, l', by omega, rfl, num_i (by omega), HK3.out, HR3.out, by have := HGL.out; have := HL.out; omega, HI3.out, by rw [HRR.out]; exact HT2.out, HB2.out⟩
    · obtain rfl : k = l.length := by omega
      rw [List.drop_length] at HTW
      have c0 := HW.out.c0
      have HE := Lib.hid (show z = decide (p = 2) by rw [← HTW.out]; rfl)
      go_wp2
      go_ret
      exact ⟨ret_b (by rw [HE.out, Bool.eq_iff_iff]; simp), HB.out⟩
end Go.Proofs.Ytbflkdkbfidleaa
