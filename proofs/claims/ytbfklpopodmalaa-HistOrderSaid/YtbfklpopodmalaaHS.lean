/- Histories: the courses of the calls that were told, of one history. -/
import Derived.Test.YtbfklpopodmalaaHR
import Derived.Maps.RangeWalk
namespace Go.Proofs.Ytbfklpopodmalaa
open Go.RowKit Go.Maps
theorem has_key {D : DataW Unit} {h : List Ev} (r : Rc D h) {kl : Lit} (hk : Maps.has D kl = true) : ∃ c, c ∈ h.map Ev.c ∧ KC.ok c ∧ kl = ck c := by
  obtain ⟨c, h1, h2, h3⟩ := r.only kl hk
  exact ⟨c, h2, h1, h3⟩
theorem ok_a : KC.ok (1, 1) := ⟨by unfold fits; omega, by unfold fits; omega⟩
theorem ok_b : KC.ok (2, 1) := ⟨by unfold fits; omega, by unfold fits; omega⟩
theorem ck_key (c : Int × Int) : WideAt.IsKeyLit (ck c) := trivial
set_option maxRecDepth 100000 in
set_option maxHeartbeats 4000000 in

theorem tcs_hx (v : Value) (w : World) (hv : KE.IsL w w.heap.size v hx) :
    Calls Try.prog 29 #[v] w fun e w' => ∃ v', e = .returned v' ∧ KX.IsL w' w'.heap.size v' [(1, 6), (2, 4)] ∧ Below w.heap.size w w' := by
  have HC := Lib.hid (courses_any v hx w hv (by decide))
  have HSO := Lib.hid (fun w B g cap hB t => sort_two w B g cap hB t)
  obtain ⟨A, c, rfl, hc⟩ := hv.shape
  have hlx : hx.length = 6 := rfl
  rw [hlx] at HC hc ⊢
  clear hv hc
  go_enter Try.func29, Try.ntmps29
  go_wp2_with fail
  refine HC.out.mono ?_
  rintro e w1 ⟨rfl, hm, hb⟩
  have HB1 := Lib.hid hb
  have HLT := Lib.hid hm.lt
  obtain ⟨D, ho, hr⟩ := hm
  have HO := Lib.hid ho
  have HR := Lib.hid hr
  clear hb ho hr HC
  obtain ⟨bm, hbm⟩ : ∃ bm, w.heap.size = bm := ⟨_, rfl⟩
  rw [hbm] at HLT HO
  go_wp2_with (at_range; refine wpList_range_own _ rfl _ 43 rfl 31 46 lawC Try.underlying43 crR bm 6 D rfl HO.out ?_; intro w3 hrg3 hg3 hs3)
  go_frame
  obtain ⟨r, hrr⟩ : ∃ r, w1.heap.size = r := ⟨_, rfl⟩
  rw [hrr] at hrg3 ⊢
  have HRG := Lib.hid hrg3
  have HB3 := Lib.hid (HB1.out.grown hg3 HB1.out.size (fun j hj => by cases hj))
  have HRB := Lib.hid (show w.heap.size ≤ r by rw [← hrr]; exact HB1.out.size)
  clear hrg3 hg3 hs3 hrr HLT
  go_loopg [3] (Maps.size D) (fun gh u wr => ∃ (left : Lit → Bool) (cnt : Nat) (ids : List (Int × Int)), gh = cnt ∧ wr.ranges Try.prog 31 crR bm r 6 D left cnt ∧ KX.Own wr (r + 1) u (ids.map (crs hx)) ∧ ids.Nodup ∧ (∀ x, x ∈ ids ↔ ((x = (1, 1) ∨ x = (2, 1)) ∧ left (ck x) = false)) ∧ ids.length ≤ 2 ∧ r + 1 ≤ wr.heap.size ∧ Below w.heap.size w wr)
  case atStart => exact ⟨_, _, [], rfl, HRG.out, Lk.Own.nil _ _, List.nodup_nil, (fun x => by
    refine ⟨fun a => (List.not_mem_nil a).elim, fun a => ?_⟩
    have h2 := a.2
    rcases a.1 with rfl | rfl
    · rw [HR.out.has _ ok_a, decide_eq_true ((hx_mem _).2 (.inl rfl))] at h2
      cases h2
    · rw [HR.out.has _ ok_b, decide_eq_true ((hx_mem _).2 (.inr rfl))] at h2
      cases h2), Nat.zero_le _, HRG.out.lt, HB3.out⟩
  case round =>
    obtain ⟨left, cnt, ids, rfl, hrg, hown, hnd, hids, hcl, hsz, hbl⟩ := hrel
    have HRG2 := Lib.hid hrg
    have HOW := Lib.hid hown
    have HND := Lib.hid hnd
    have HID := Lib.hid hids
    have HCL := Lib.hid hcl
    have HSZ := Lib.hid hsz
    have HBL := Lib.hid hbl
    clear hrg hown hnd hids hcl hsz hbl
    go_wp2_with (at_next; refine wpList_next_ranges _ rfl _ rfl 31 lawC crR (fun v : Value => v) (fun p : Int × Int => Value.agg #[.int .i64 p.1, .int .i64 p.2]) (fun key kl _ => ⟨key, rfl⟩) (fun v y hv => by obtain ⟨p, e, _⟩ := crR_inv hv; exact ⟨p, e⟩) bm r 6 D left gk rfl HRG2.out ?_ ?_)
    · intro _ hl0
      have HPM := Lib.hid (two_perm HND.out (fun x => by rw [HID.out, hl0]; simp))
      have HT := Lib.hid (show ∃ g cap, u3 = .slice (some ⟨g, 0, none⟩) 2 cap ∧ r + 1 ≤ g ∧ 2 ≤ cap ∧ (Tw wr g 1 6 2 4 ∨ Tw wr g 2 4 1 6) by
        rcases HPM.out with e | e
        · have h := HOW.out
          rw [e, List.map_cons, List.map_cons, List.map_nil, hx_a, hx_b] at h
          obtain ⟨g, cap, e1, e2, e3, e4⟩ := KX.two h
          exact ⟨g, cap, e1, e2, e3, .inl e4⟩
        · have h := HOW.out
          rw [e, List.map_cons, List.map_cons, List.map_nil, hx_a, hx_b] at h
          obtain ⟨g, cap, e1, e2, e3, e4⟩ := KX.two h
          exact ⟨g, cap, e1, e2, e3, .inr e4⟩)
      obtain ⟨g, cap, rfl, hg, hcap, ht⟩ := HT.out
      have HSS := Lib.hid (HSO.out wr w.heap.size g cap (by have := HRB.out; omega) ht)
      have HCP := Lib.hid hcap
      clear hl0 HPM HOW HT hg hcap ht
      go_wp2_with fail
      refine HSS.out.mono ?_
      rintro e w5 ⟨rfl, ht, hb5⟩
      have HT5 := Lib.hid ht
      have HB5 := Lib.hid (HBL.out.trans hb5)
      clear ht hb5
      go_wp2
      go_ret
      exact ⟨_, rfl, KX.of_tw HT5.out HCP.out ⟨by unfold fits; omega, by unfold fits; omega⟩ ⟨by unfold fits; omega, by unfold fits; omega⟩, HB5.out⟩
    · intro key p1 p2 kl yd yp w2 cnt1 hkey hlk hR hat hrg1 hlt hg1 hs1 hen
      obtain ⟨c, hcm, hok, rfl⟩ := has_key HR.out (Maps.has_true_of_atKey hat)
      have hpp : crs hx c = (p1, p2) := by
        have h1 := hat (crD (0, 0))
        rw [HR.out.cr c hok] at h1
        rw [crR_mk] at hR
        cases hR
        exact crD_inj h1
      have HCM := Lib.hid ((hx_mem c).1 hcm)
      have HNI := Lib.hid (show c ∉ ids from fun a => by have := ((HID.out c).1 a).2; rw [hlk] at this; cases this)
      have HOKC := Lib.hid hok
      have HRG1 := Lib.hid hrg1
      have HLT := Lib.hid hlt
      have HTO := Lib.hid (show ∃ a b : Int, crs hx c = (a, b) ∧ b ≠ 0 ∧ fits a ∧ fits b by
        rcases HCM.out with rfl | rfl
        · exact ⟨1, 6, hx_a, by decide, by unfold fits; omega, by unfold fits; omega⟩
        · exact ⟨2, 4, hx_b, by decide, by unfold fits; omega, by unfold fits; omega⟩)
      obtain ⟨pa, pb, hpe, hpz, hpf⟩ := HTO.out
      obtain ⟨rfl, rfl⟩ : p1 = pa ∧ p2 = pb := by rw [hpp] at hpe; exact ⟨congrArg Prod.fst hpe, congrArg Prod.snd hpe⟩
      clear hpp
      have HPE := Lib.hid hpe
      have HPF := Lib.hid hpf
      have hpn : (p2 != 0) = true := by simpa using hpz
      have hub : u3.ownBlock = none ∨ u3.ownBlock ≠ some r := by
        cases hb : u3.ownBlock with
        | none => exact .inl rfl
        | some j => exact .inr fun e => by cases e; have := HOW.out.lt _ hb; omega
      have HOW1 := Lib.hid (HOW.out.kept hg1 hub)
      have HSZ1 := Lib.hid (show r + 1 ≤ w2.heap.size by rw [hs1]; exact HSZ.out)
      have HB2 := Lib.hid (HBL.out.grown hg1 HBL.out.size (fun j hj => by cases hj; exact HRB.out))
      have HNB := Lib.hid (show ∀ j, u3.ownBlock = some j → r + 1 ≤ j from fun j hj => (HOW.out.lt j hj).1)
      have HN3 := Lib.hid (show (ids ++ [c]).Nodup from List.nodup_append.2 ⟨HND.out, by simp, fun a ha b hb e => by rw [List.mem_singleton] at hb; subst hb; subst e; exact HNI.out ha⟩)
      have HL3 := Lib.hid (show (ids ++ [c]).length ≤ 2 by
        have hm : ∀ x, x ∈ ids ++ [c] → x = (1, 1) ∨ x = (2, 1) := fun x hx => by
          rcases List.mem_append.1 hx with h | h
          · exact ((HID.out x).1 h).1
          · rw [List.mem_singleton] at h; subst h; exact HCM.out
        have hn := HN3.out
        generalize ids ++ [c] = l at hm hn
        match l, hm, hn with
        | [], _, _ => decide
        | [_], _, _ => simp
        | [_, _], _, _ => simp
        | a :: b :: d :: r, hm, hn =>
          exfalso
          have ha := hm a (by simp)
          have hb := hm b (by simp)
          have hd := hm d (by simp)
          simp at hn
          rcases ha with rfl | rfl <;> rcases hb with rfl | rfl <;> rcases hd with rfl | rfl <;> simp at hn)
      obtain ⟨wb, hwb⟩ : ∃ wb, wb = w2.alloc (.cells #[.int .i64 p1, .int .i64 p2] 46) := ⟨_, rfl⟩
      have hbb : Below w2.heap.size w2 wb := by rw [hwb]; exact Below.al (Below.refl _ _) _
      have HOWb := Lib.hid (show KX.Own wb (r + 1) u3 _ by rw [hwb]; exact HOW1.out.alloc _)
      have HRGb := Lib.hid (show wb.ranges Try.prog 31 crR bm r 6 D _ cnt1 by rw [hwb]; exact HRG1.out.alloc _)
      have HBb := Lib.hid (Below.call HB2.out hbb)
      have HSZb := Lib.hid (Nat.le_trans HSZ1.out hbb.size)
      have y0 : wb.cell? ⟨w2.heap.size, 0, none⟩ = some (.int .i64 p1) := by rw [hwb]; simp [go_sem]
      have y1 : wb.cell? ⟨w2.heap.size, 1, none⟩ = some (.int .i64 p2) := by rw [hwb]; simp [go_sem]
      clear hkey hlk hR hat hrg1 hlt hg1 hs1 hub hok hcm hpe hpz hpf hbb HOW1 HRG1 HB2 HSZ1 HTO
      go_upto_region 5 with fail
      rw [← hwb]
      clear hwb hen
      go_wp2_with (at_builtin; refine Lk.wpList_app (K := KX) _ rfl _ _ rfl rfl (r + 1) (wb.heap.size + 1) _ _ (ids.map (crs hx)) [(p1, p2)] rfl rfl (HOWb.out.alloc _) (Lk.IsL.lit (K := KX) _ (p1, p2) _ HPF.out rfl wb.heap.size rfl) ?c1 ?c2 ?_)
      case c1 => have := HCL.out; simp; omega
      case c2 => have := HSZb.out; simp; omega
      intro v6 w6 hown hgrow _
      have HB6 := Lib.hid (show Below w.heap.size w w6 from (Below.al HBb.out _).grown hgrow (by have := HBb.out.size; simp; omega) (fun j hj => by have := HNB.out j hj; have := HRB.out; omega))
      have HRG6 := Lib.hid ((HRGb.out.alloc (.cells #[.int .i64 p1, .int .i64 p2] 46)).kept hgrow (fun e => by have := HNB.out _ e.symm; have := HRB.out; omega) (fun e => by have := HNB.out _ e.symm; omega))
      have HSZ6 := Lib.hid (show r + 1 ≤ w6.heap.size by have := hgrow.size; have := HSZb.out; simp at *; omega)
      have HO6 := Lib.hid hown
      clear hown hgrow
      go_wp2
      go_roundg cnt1
      case measure => exact HLT.out
      case rel => exact ⟨_, cnt1, ids ++ [c], rfl, HRG6.out, by rw [List.map_append, List.map_singleton, HPE.out]; exact HO6.out, HN3.out, fun z => by
        rw [List.mem_append, HID.out, List.mem_singleton]
        by_cases e : z = c
        · subst e
          have := WideAt.sameKey_self (ck_key z)
          simp [this, HCM.out]
        · have hne : ∀ z, (z = (1, 1) ∨ z = (2, 1)) → z ≠ c → (ck z).sameKey (ck c) = false := fun z hz hn => by
            have hokz : KC.ok z := by rcases hz with rfl | rfl; exact ok_a; exact ok_b
            cases hs : (ck z).sameKey (ck c) with
            | false => rfl
            | true => exact absurd (ck_inj hokz HOKC.out (WideAt.sameKey_eq hs)) hn
          constructor
          · rintro (h | h)
            · exact ⟨h.1, by simp [h.2]⟩
            · exact absurd h e
          · rintro ⟨h1, h2⟩
            rw [hne z h1 e] at h2
            exact .inl ⟨h1, by simpa using h2⟩, HL3.out, HSZ6.out, HB6.out⟩
end Go.Proofs.Ytbfklpopodmalaa
