/- Plans: what is held: the program. -/
import Derived.Test.YtbflkdkbfidleaaVK
import Derived.Maps.RangeWalk
import Derived.Maps.Own
namespace Go.Proofs.Ytbflkdkbfidleaa
open Go.RowKit Go.Maps
theorem sizeOfD (w : World) : (sizeOf (Try.prog.elem 38)).run Try.prog w = .ok 2 w := by kernel_rfl
theorem elemD : Try.prog.elem 38 = 48 := by kernel_rfl
theorem undD : Try.prog.underlying 38 = some (.slice (Try.prog.elem 38)) := by rw [elemD]; exact Try.underlying38
/-- Deeds up to a place. -/
theorem KD.to_ {w : World} {B : Nat} {v : Value} {xs : List (Int × Int)} (h : KD.IsL w B v xs) (k : Nat) (hk : k ≤ xs.length) :
    ∃ v', (∀ w' : World, (Instr.slice 38 v none (some (.int .i64 (k : Int))) none).run Try.prog w' = .ok v' w') ∧ KD.IsL w B v' (xs.take k) := by
  obtain ⟨⟨A, cap, rfl, hc, hA⟩, hf, hl⟩ := h
  refine ⟨_, fun w' => by rw [run_slice_h (P := Try.prog) w' 38 _ _ _ undD .i64 k (by omega) (by omega), sizeOfD]; rfl, ?_⟩
  refine ⟨⟨_, cap, by rw [sliced, Int.toNat_natCast, List.length_take, Nat.min_eq_left hk, Nat.sub_zero, Nat.sub_zero], by rw [List.length_take]; omega, fun h0 => ?_⟩, fun x hx => hf x (List.mem_of_mem_take hx), by rw [List.length_take]; omega⟩
  rw [List.length_take] at h0
  obtain ⟨b, off, rfl, hb, hcell⟩ := hA (by omega)
  refine ⟨b, off, ?_, hb, fun i hi j u hu => ?_⟩
  · simp [Go.WideShapes.add_plain]
  · rw [List.length_take] at hi
    refine hcell i (by omega) j u ?_
    rw [List.getD_eq_getElem?_getD, List.getElem?_take, if_pos (by omega), ← List.getD_eq_getElem?_getD] at hu
    exact hu
theorem Hm.put {w w' : World} {b n : Nat} {h : List Int} {D : DataW Unit} {x : Int} (o : w.ownsMap Try.prog 3 (unitElem (H := Unit)) b n D) (r : Rp D h) (o' : w'.ownsMap Try.prog 3 (unitElem (H := Unit)) b (n + 1) (D.put (.int .i64 x) (.agg []))) : Hm w' b (n + 1) (Two.put h x) := ⟨_, o', r.put (o.tidy Two.law3) x _⟩
theorem Hm.del {w w' : World} {b n : Nat} {h : List Int} {D : DataW Unit} {x : Int} (o : w.ownsMap Try.prog 3 (unitElem (H := Unit)) b n D) (r : Rp D h) (o' : w'.ownsMap Try.prog 3 (unitElem (H := Unit)) b n (D.del (.int .i64 x))) : Hm w' b n (h.filter fun y => !decide (y ∈ [x])) := ⟨_, o', r.del (o.tidy Two.law3) x⟩
theorem Hm.more {w : World} {b n : Nat} {h : List Int} (m : Hm w b n h) : Hm w b (n + 1) h := let ⟨D, o, r⟩ := m; ⟨D, o.mono (Nat.le_succ _), r⟩
set_option maxRecDepth 100000 in
set_option maxHeartbeats 4000000 in
theorem holds_any (v : Value) (l : List (Int × Int)) (k : Int) (w : World) (hv : KD.IsL w w.heap.size v l) (hl : l.length ≤ 900) :
    Calls Try.prog 36 #[v, .int .i64 k] w fun e w' => ∃ v', e = .returned v' ∧ KI.IsL w' w'.heap.size v' (hlV l k) ∧ Below w.heap.size w w' := by
  have HV := Lib.hid hv
  have hS : hlV l k = hdL (l.take (wi k l.length)) := rfl
  rw [hS]
  clear hS
  have HWL := Lib.hid (show wi k l.length ≤ l.length by unfold wi; omega)
  have HWI := Lib.hid (fun w => within_any k l.length w)
  generalize hgn : wi k l.length = n at *
  clear hgn
  have HSN := Lib.hid (fun m h => hdL_snoc (l.take n) m h)
  have HLN := Lib.hid (fun m => hdL_len ((l.take n).take m))
  obtain ⟨v1, hrun, hil⟩ := KD.to_ hv n HWL.out
  have HT := Lib.hid hil
  have HTL := Lib.hid (show (l.take n).length = n by rw [List.length_take]; have := HWL.out; omega)
  obtain ⟨A, c, rfl, hc⟩ := hv.shape
  obtain ⟨A1, c1, rfl, hc1⟩ := hil.shape
  clear hv hil
  generalize l.take n = t at *
  rw [HTL.out] at HT hrun hc1
  have hnl : n ≤ 900 := by have := HWL.out; omega
  have hmm := @run_makeMap Try.prog
  have HM0 := Lib.hid (show Hm (w.alloc (.map #[] 0)) w.heap.size 0 [] from ⟨_, World.ownsMap_made w Try.prog 3 _, Rp.nil⟩)
  go_enter Try.func36, Try.ntmps36
  go_wp2_with fail
  refine (HWI.out _).mono ?_
  rintro e w1 ⟨rfl, rfl⟩
  go_wp2
  go_loopg [18] n (fun gh i wr => ∃ m : Nat, m ≤ n ∧ gh = n - m ∧ i = .int .i64 m ∧ Hm wr w.heap.size m (hdL (t.take m)) ∧ Below w.heap.size w wr)
  case atStart => exact ⟨0, Nat.zero_le _, rfl, rfl, HM0.out, Below.al (Below.refl _ _) _⟩
  case round =>
    obtain ⟨m, hm, rfl, rfl, hmap, hbl⟩ := hrel
    have HM := Lib.hid hmap
    have HB := Lib.hid hbl
    clear hmap hbl
    by_cases hlt : m < n
    · have HS := Lib.hid (HSN.out m (by rw [HTL.out]; exact hlt))
      obtain ⟨b, off, rfl, hb, _, hcell⟩ := dd_cells (HT.out.then HB.out) (by rw [HTL.out]; omega)
      obtain ⟨e0, e1⟩ := hcell m (by rw [HTL.out]; exact hlt)
      have HF := Lib.hid ((HT.out.2.1 _ (getD_mem' t m (0, 0) (by rw [HTL.out]; exact hlt))).2)
      clear hcell
      generalize t.getD m (0, 0) = d at *
      obtain ⟨d1, d2⟩ := d
      simp only at e0 e1 HF
      generalize hdL (t.take m) = h at *
      obtain ⟨D, ho, hr⟩ := HM.out
      have HO := Lib.hid (ho.alloc (.cells #[.int .i64 d1, .int .i64 d2] 48))
      have HR := Lib.hid hr
      have HBA := Lib.hid (Below.al HB.out (.cells #[.int .i64 d1, .int .i64 d2] 48))
      clear ho hr
      by_cases h1 : d1 = 1
      · subst h1
        rw [show hdS h (1, d2) = Two.put h d2 from rfl] at HS
        go_wp2_with (at_mapUpdate; refine wpList_mapUpdate_own _ rfl _ _ _ 62 rfl 3 67 Two.law3 Try.underlying62 (unitElem (H := Unit)) w.heap.size m _ rfl HO.out (by unfold maxLen; omega) _ _ _ rfl rfl (keyI HF.out) _ [] unit_mk ?_; intro w2 hown1 hgrow1)
        have HM2 := Lib.hid (Hm.put HO.out HR.out hown1)
        have HB2 := Lib.hid (HBA.out.grown hgrow1 HBA.out.size (fun j hj => by cases hj; exact Nat.le_refl _))
        clear hown1 hgrow1
        go_wp2
        go_roundg (n - (m + 1))
        case measure => omega
        case rel => exact ⟨m + 1, by omega, rfl, num_i (by omega), by rw [HS.out]; exact HM2.out, HB2.out⟩
      · have hq1 : (d1 == 1) = false := by rw [beq_eq_false_iff_ne]; exact h1
        by_cases h4 : d1 = 4
        · subst h4
          rw [show hdS h (4, d2) = h.filter (fun y => !decide (y ∈ [d2])) from rfl] at HS
          clear hq1 h1
          go_wp2_with (at_delete; refine wpList_delete_own _ rfl _ _ 62 3 rfl 67 Two.law3 Try.underlying62 (unitElem (H := Unit)) w.heap.size m _ rfl HO.out _ _ rfl (keyI HF.out) ?_; intro w2 hown1 hturn1)
          have HM2 := Lib.hid (Hm.del HO.out HR.out hown1).more
          have HB2 := Lib.hid (HBA.out.grown hturn1.grown HBA.out.size (fun j hj => by cases hj; exact Nat.le_refl _))
          clear hown1 hturn1
          go_wp2
          go_roundg (n - (m + 1))
          case measure => omega
          case rel => exact ⟨m + 1, by omega, rfl, num_i (by omega), by rw [HS.out]; exact HM2.out, HB2.out⟩
        · rw [show hdS h (d1, d2) = h by unfold hdS; rw [if_neg h1, if_neg h4]] at HS
          have hq4 : (d1 == 4) = false := by rw [beq_eq_false_iff_ne]; exact h4
          clear h1 h4
          go_wp2
          go_roundg (n - (m + 1))
          case measure => omega
          case rel => exact ⟨m + 1, by omega, rfl, num_i (by omega), by rw [HS.out]; exact Hm.more ⟨_, HO.out, HR.out⟩, HBA.out⟩
    · obtain rfl : m = n := by omega
      have HHL := Lib.hid (HLN.out m)
      rw [show t.take m = t by rw [List.take_of_length_le]; have := HTL.out; omega] at HM HHL
      have HINC := Lib.hid HM.out.inc
      obtain ⟨h, hh⟩ : ∃ h, hdL t = h := ⟨_, rfl⟩
      have HHE := Lib.hid hh
      rw [hh] at HM HHL HINC
      clear hh
      obtain ⟨D, ho, hr⟩ := HM.out
      have HO := Lib.hid ho
      have HR := Lib.hid hr
      clear ho hr HM HSN HLN
      have HHL := Lib.hid (show h.length ≤ m by have := HHL.out; have := HTL.out; omega)
      go_wp2_with (at_range; refine wpList_range_own _ rfl _ 62 rfl 3 67 Two.law3 Try.underlying62 (unitElem (H := Unit)) w.heap.size m D rfl HO.out ?_; intro w3 hrg3 hg3 hs3)
      go_frame
      obtain ⟨r, hr⟩ : ∃ r, wr.heap.size = r := ⟨_, rfl⟩
      rw [hr] at hrg3 ⊢
      have HRG := Lib.hid hrg3
      have HB3 := Lib.hid (HB.out.grown hg3 HB.out.size (fun j hj => by cases hj))
      have HRB := Lib.hid (show w.heap.size ≤ r by rw [← hr]; exact HB.out.size)
      clear hrg3 hg3 hs3 hr
      go_loopg [8] h.length (fun gh u wr => ∃ (left : Lit → Bool) (cnt : Nat) (ids : List Int), gh = cnt ∧ wr.ranges Try.prog 3 (unitElem (H := Unit)) w.heap.size r m D left cnt ∧ KI.Own wr (r + 1) u ids ∧ (∀ x, x ∈ ids ↔ (x ∈ h ∧ left (.int .i64 x) = false)) ∧ ids.length + cnt ≤ h.length ∧ r + 1 ≤ wr.heap.size ∧ Below w.heap.size w wr)
      case atStart => exact ⟨_, _, [], (HR.out.size).symm, HRG.out, Lk.Own.nil _ _, fun x => by rw [HR.out.has]; simp, by rw [HR.out.size]; simp, HRG.out.lt, HB3.out⟩
      case round =>
        obtain ⟨left, cnt, ids, rfl, hrg, hown, hids, hcl, hsz, hbl⟩ := hrel
        have HRG2 := Lib.hid hrg
        have HOW := Lib.hid hown
        have HID := Lib.hid hids
        have HCL := Lib.hid hcl
        have HSZ := Lib.hid hsz
        have HBL := Lib.hid hbl
        clear hrg hown hids hcl hsz hbl
        go_wp2_with (at_next; refine wpList_next_ranges _ rfl _ rfl 3 Two.law3 (unitElem (H := Unit)) (Value.int .i64) (fun _ : Unit => Value.agg #[]) (fun key kl hk => by obtain ⟨x, e, _⟩ := Maps.keyOf_int_inv Try.underlying3 hk; exact ⟨x, e⟩) (fun v y hv => ⟨(), (unitElem_inv hv).1⟩) w.heap.size r m D left gk rfl HRG2.out ?_ ?_)
        · intro _ hl0
          have HMK := Lib.hid (show Two.mk ids = h from Two.inc_ext (Two.inc_mk ids) HINC.out fun x => by rw [Two.mem_mk, HID.out, hl0]; simp)
          have HFR := Lib.hid (Two.from_any u8 ids wr (two_of (HOW.out.isL (by have := HCL.out; have := HHL.out; omega))) (by have := HCL.out; have := HHL.out; omega))
          rw [HMK.out] at HFR
          clear hl0
          go_wp2_with fail
          refine HFR.out.mono ?_
          rintro e w5 ⟨v5, rfl, hi5, hb5⟩
          go_wp2
          go_ret
          exact ⟨_, rfl, by rw [HHE.out]; exact of_two hi5, Below.call HBL.out hb5⟩
        · intro x c kl y w1 cnt1 hkey hlk hR hat hrg1 hlt hg1 hs1 hen
          obtain ⟨x', ex, rfl, hwx⟩ := Maps.keyOf_int_inv Try.underlying3 hkey
          cases ex
          have HIN := Lib.hid (show x ∈ h by
            have := Maps.has_true_of_atKey hat
            rw [HR.out.has] at this
            exact of_decide_eq_true this)
          have HXF := Lib.hid (show fits x by unfold fits; simpa [Lit.wf, IntKind.min, IntKind.max, IntKind.signed, IntKind.bits] using hwx)
          have HLK := Lib.hid hlk
          have HRG1 := Lib.hid hrg1
          have HLT := Lib.hid hlt
          have hub : u8.ownBlock = none ∨ u8.ownBlock ≠ some r := by
            cases hb : u8.ownBlock with
            | none => exact .inl rfl
            | some j => exact .inr fun e => by cases e; have := HOW.out.lt _ hb; omega
          have HOW1 := Lib.hid (HOW.out.kept hg1 hub)
          have HSZ1 := Lib.hid (show r + 1 ≤ w1.heap.size by rw [hs1]; exact HSZ.out)
          have HB1 := Lib.hid (HBL.out.grown hg1 HBL.out.size (fun j hj => by cases hj; exact HRB.out))
          have HNB := Lib.hid (show ∀ j, u8.ownBlock = some j → r + 1 ≤ j from fun j hj => (HOW.out.lt j hj).1)
          clear hkey hlk hR hat hrg1 hlt hg1 hs1 hwx hub
          go_wp2_with (at_builtin; refine Lk.wpList_app (K := KI) _ rfl _ _ rfl rfl (r + 1) (w1.heap.size + 1) _ _ ids [x] rfl rfl (HOW1.out.alloc _) (Lk.IsL.lit (K := KI) _ x _ HXF.out rfl w1.heap.size rfl) ?c1 ?c2 ?_)
          case c1 => have := HCL.out; have := HHL.out; simp; omega
          case c2 => have := HSZ1.out; simp; omega
          intro v6 w6 hown hgrow _
          have HB6 := Lib.hid (show Below w.heap.size w w6 from (Below.al HB1.out _).grown hgrow (by have := HB1.out.size; simp; omega) (fun j hj => by have := HNB.out j hj; have := HRB.out; omega))
          have HRG6 := Lib.hid ((HRG1.out.alloc (.cells #[.int .i64 x] 3)).kept hgrow (fun e => by have := HNB.out _ e.symm; have := HRB.out; omega) (fun e => by have := HNB.out _ e.symm; omega))
          have HSZ6 := Lib.hid (show r + 1 ≤ w6.heap.size by have := hgrow.size; have := HSZ1.out; simp at *; omega)
          have HO6 := Lib.hid hown
          clear hown hgrow hen
          go_wp2
          go_roundg cnt1
          case measure => exact HLT.out
          case rel => exact ⟨_, cnt1, ids ++ [x], rfl, HRG6.out, HO6.out, fun z => by
            rw [List.mem_append, HID.out, List.mem_singleton]
            have hsk : (Lit.int .i64 z).sameKey (.int .i64 x) = decide (z = x) := by simp [Lit.sameKey]
            rw [hsk]
            by_cases e : z = x
            · subst e
              simp [HIN.out]
            · simp [e], by have := HCL.out; have := HLT.out; rw [List.length_append, List.length_singleton]; omega, HSZ6.out, HB6.out⟩
end Go.Proofs.Ytbflkdkbfidleaa
