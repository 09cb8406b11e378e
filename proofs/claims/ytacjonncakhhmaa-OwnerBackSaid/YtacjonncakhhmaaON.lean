/- Owners: the law of what is taken and given back. -/
import Derived.Test.YtacjonncakhhmaaOM
import Derived.Test.YtacjonncakhhmaaTD
namespace Go.Proofs.Ytacjonncakhhmaa
open Go.RowKit
theorem Two.IsL.far {w : World} {B : Nat} {v : Value} {xs : List Int} (h : Two.IsL w B v xs) (g : Nat) (hne : ∀ k, v.ownBlock = some k → k ≠ g) (o : Nat) (u : Value) : Two.IsL (w.setCell ⟨g, o, none⟩ u) B v xs := by
  obtain ⟨⟨A, cap, rfl, hc, hA⟩, hf, hl⟩ := h
  refine ⟨⟨A, cap, rfl, hc, fun h0 => ?_⟩, hf, hl⟩
  obtain ⟨b, off, rfl, hb, hcell⟩ := hA h0
  refine ⟨b, off, rfl, hb, fun i hi => st_other (hcell i hi) fun e => ?_⟩
  simp only [Addr.mk.injEq] at e
  exact hne b rfl e.1.symm
theorem newO_len (n : Int) (h : n ≤ 1000) : (n < 0 → newO n = []) ∧ (0 ≤ n → ((newO n).length : Int) = n) ∧ ∀ x ∈ newO n, x = 0 := by
  unfold newO
  by_cases h0 : n < 0
  · rw [if_pos (Or.inl h0)]
    exact ⟨fun _ => rfl, fun h => by omega, fun x hx => by simp at hx⟩
  · rw [if_neg (by omega)]
    exact ⟨fun h => absurd h h0, fun _ => by rw [List.length_replicate]; omega, fun x hx => (List.mem_replicate.1 hx).2⟩
/-- What owners are while they are laid: right, and nobody's where the set is. -/
def Laid (L s : List Int) (N : Nat) : Prop := L.length = N ∧ (∀ j, j < N → 0 ≤ L.getD j 0 ∧ L.getD j 0 ≤ 8) ∧ ∀ j, j < N → (j : Int) ∈ s → L.getD j 0 = 0
theorem Laid.start (n : Int) (s : List Int) (h : n ≤ 1000) : Laid (newO n) s (newO n).length := by
  have hz := (newO_len n h).2.2
  have : ∀ j, j < (newO n).length → (newO n).getD j 0 = 0 := fun j hj => hz _ (getD_mem' _ j 0 hj)
  exact ⟨rfl, fun j hj => by rw [this j hj]; decide, fun j hj _ => this j hj⟩
theorem Laid.put {L s : List Int} {N : Nat} (h : Laid L s N) (k : Nat) (x : Int) (hx : 0 ≤ x ∧ x ≤ 8) (hk : (k : Int) ∉ s) : Laid (L.set k x) s N := by
  obtain ⟨h1, h2, h3⟩ := h
  refine ⟨by rw [List.length_set]; exact h1, fun j hj => ?_, fun j hj hm => ?_⟩
  · rw [List.getD_eq_getElem?_getD]
    by_cases e : k = j
    · subst e
      rw [List.getElem?_set_self (by omega)]
      exact hx
    · rw [List.getElem?_set_ne e, ← List.getD_eq_getElem?_getD]
      exact h2 j hj
  · rw [List.getD_eq_getElem?_getD]
    by_cases e : k = j
    · subst e
      exact absurd hm hk
    · rw [List.getElem?_set_ne e, ← List.getD_eq_getElem?_getD]
      exact h3 j hj hm
theorem Laid.zero {L s : List Int} {N : Nat} (h : Laid L s N) : ∀ x ∈ s, (0 ≤ x ∧ x < L.length) → L.getD x.toNat 0 = 0 := fun x hx hin => by
  obtain ⟨h1, _, h3⟩ := h
  exact h3 x.toNat (by omega) (by rw [show ((x.toNat : Nat) : Int) = x by omega]; exact hx)
theorem Laid.not (L s : List Int) (N : Nat) (who : Int) (h : Laid L s N) : psE L s who (takeQ who) 140 ≠ 140 :=
  ps_not L s who (takeQ who) 140 (by decide) (by decide) (by decide) fun hin x hx => by
    rw [h.zero x hx (hin x hx)]
    rfl
set_option maxRecDepth 100000 in
set_option maxHeartbeats 4000000 in
theorem ownerBack_walk (n : Int) (v1 v2 : Value) (l ids : List Int) (who : Int) (w : World) (hv : KI.IsL w w.heap.size v1 l) (hu : KI.IsL w w.heap.size v2 ids) (hw : fits who) :
    Calls Try.prog 8 #[.int .i64 n, v1, v2, .int .i64 who] w fun e w' => e = .returned (.bool true) ∧ Below w.heap.size w w' := by
  have LL := Lib.hid hv
  have LI := Lib.hid hu
  obtain ⟨A1, c1, rfl, hc1⟩ := hv.shape
  obtain ⟨A2, c2, rfl, hc2⟩ := hu.shape
  have HW := Lib.hid hw
  have hl1 := hv.2.2
  have hl2 := hu.2.2
  clear hv hu hw
  have HLV := Lib.hid (fun w => lives14 w)
  by_cases h1 : n > 1000
  · go_enter Try.func8, Try.ntmps8
    go_wp2_with fail
    refine (HLV.out _).mono ?_
    rintro e w1 ⟨rfl, hb1⟩
    go_wp2
    go_ret
    exact ⟨rfl, hb1⟩
  by_cases h2 : l.length > 1000
  · go_enter Try.func8, Try.ntmps8
    go_wp2_with fail
    refine (HLV.out _).mono ?_
    rintro e w1 ⟨rfl, hb1⟩
    go_wp2
    go_ret
    exact ⟨rfl, hb1⟩
  by_cases h3 : ids.length > 1000
  · go_enter Try.func8, Try.ntmps8
    go_wp2_with fail
    refine (HLV.out _).mono ?_
    rintro e w1 ⟨rfl, hb1⟩
    go_wp2
    go_ret
    exact ⟨rfl, hb1⟩
  have HNW := Lib.hid (fun w => new_o n w)
  have HF := Lib.hid (fun v w h => Two.rfrom_any' v ids w h (by omega))
  have LL0 := LL
  have HNL := newO_len n (by omega)
  have HST := Lib.hid (Laid.start n (Two.mk ids) (by omega))
  generalize Two.mk ids = s at *
  generalize newO n = L0 at *
  obtain ⟨n1, n2, -⟩ := HNL
  have HIN := Lib.hid (fun v x w h => Two.in_any v s x w h)
  have hL0 : L0.length ≤ 1000 := by
    by_cases h : n < 0
    · rw [n1 h]; simp
    · have := n2 (by omega); omega
  obtain ⟨N, hN⟩ : ∃ N, L0.length = N := ⟨_, rfl⟩
  have N1 := Lib.hid (show n < 0 → N = 0 from fun h => by rw [← hN, n1 h]; rfl)
  rw [hN] at n2 HST hL0
  have N2 := Lib.hid n2
  have HNN := Lib.hid hN
  clear n1 n2 hN
  go_enter Try.func8, Try.ntmps8
  go_wp2_with fail
  refine (HNW.out _).mono ?_
  rintro e k1 ⟨vO, rfl, ho, hb⟩
  have HB1 := Lib.hid hb
  have LI := Lib.hid (LI.out.then hb)
  have HO := Lib.hid ho
  clear ho hb
  have LO := Lib.hid (HO.out.isL (by rw [HNN.out]; omega))
  obtain ⟨AO, cO, hvO, hcO⟩ := LO.out.shape
  rw [HNN.out] at hvO hcO
  subst hvO
  go_wp2_with fail
  refine (HLV.out _).mono ?_
  rintro e k2 ⟨rfl, hb⟩
  have HB2 := Lib.hid (Below.call HB1.out hb)
  have LI := Lib.hid (LI.out.then hb)
  have HO := Lib.hid (HO.out.below hb)
  clear hb LO
  by_cases hn : n < 0
  · have fN : ((N : Int) != 0) = false := by rw [N1.out hn]; rfl
    go_wp2_with fail
    clear fN
    refine (HF.out _ _ (two_of LI.out)).mono ?_
    rintro e k3 ⟨vS, rfl, hs, hob, hb⟩
    have HB3 := Lib.hid (Below.call HB2.out hb)
    have LS := Lib.hid hs
    have HOB := Lib.hid hob
    have H2S := Lib.hid HO.out.lt
    have HO := Lib.hid (HO.out.below hb)
    clear hb hs hob
    have HS3 := Lib.hid HB3.out.size
    go_wp2
    go_loopw [11] (fun i wr => ∃ (k : Nat) (L : List Int), i = .int .i64 k ∧ k ≤ l.length ∧ KI.Own wr w.heap.size (.slice AO N cO) L ∧ Laid L s N ∧ Two.IsL wr wr.heap.size vS s ∧ Below w.heap.size w wr) (fun i _ => l.length - (intOf i).toNat)
    case atStart => exact ⟨0, L0, rfl, Nat.zero_le _, HO.out, HST.out, LS.out, HB3.out⟩
    case round =>
      obtain ⟨k, L, rfl, hk, hown, hlaid, hs, hbl⟩ := hrel
      have HO := Lib.hid hown
      have HD := Lib.hid hlaid
      have LS := Lib.hid hs
      have HB := Lib.hid hbl
      clear hown hlaid hs hbl
      by_cases hlt : k < l.length
      · by_cases hlt2 : k < N
        · obtain ⟨b, off, cap', hs, _, hb, _, hcell, hf⟩ := KI.cells (LL0.out.then HB.out) (by omega)
          simp only [Value.slice.injEq] at hs
          obtain ⟨rfl, _, rfl⟩ := hs
          have e1 := hcell k hlt
          have hfx := Lib.hid (hf k hlt)
          have HK := Lib.hid (HIN.out vS (k : Int) wr LS.out)
          have hmem : (decide ((k : Int) ∈ s) = true ↔ (k : Int) ∈ s) := decide_eq_true_iff
          clear hcell hf
          generalize l.getD k 0 = x at *
          have HMEM := Lib.hid hmem
          clear hmem
          generalize decide ((k : Int) ∈ s) = q at *
          by_cases hx0 : 0 ≤ x
          · by_cases hx8 : x ≤ 8
            · go_wp2_with fail
              refine HK.out.mono ?_
              rintro e kk ⟨rfl, rfl⟩
              cases q
              · obtain ⟨g, cp, hv5, hg1, hg2, hg3⟩ := HO.out.shape (by have := HD.out.1; omega)
                rw [HD.out.1] at hv5 hg3
                simp only [Value.slice.injEq] at hv5
                obtain ⟨rfl, _, rfl⟩ := hv5
                obtain ⟨f1, f2⟩ := KI.Own.at HO.out HD.out.1 k (by omega)
                generalize L.getD k 0 = old at *
                go_wp2
                go_roundw
                case rel =>
                  have hp := KI.Own.put HO.out HD.out.1 k x hfx.out
                  have hfar : Two.IsL (wr.setCell ⟨g, k, none⟩ (.int .i64 x)) (wr.setCell ⟨g, k, none⟩ (.int .i64 x)).heap.size vS s := by
                    have h := LS.out.far g (fun q hq => by
                      have a1 := HOB.out q hq
                      have a2 := (H2S.out g rfl).2
                      omega) k (.int .i64 x)
                    simpa using h
                  exact ⟨k + 1, L.set k x, num_i (by omega), by omega, hp.1, HD.out.put k x ⟨hx0, hx8⟩ (fun h => by have := HMEM.out.2 h; cases this), hfar, HB.out.setCell hg1 _⟩
                case measure => simp [intOf]; omega
              · go_wp2
                go_roundw
                case rel => exact ⟨k + 1, L, num_i (by omega), by omega, HO.out, HD.out, LS.out, HB.out⟩
                case measure => simp [intOf]; omega
            · go_wp2
              go_roundw
              case rel => exact ⟨k + 1, L, num_i (by omega), by omega, HO.out, HD.out, LS.out, HB.out⟩
              case measure => simp [intOf]; omega
          · go_wp2
            go_roundw
            case rel => exact ⟨k + 1, L, num_i (by omega), by omega, HO.out, HD.out, LS.out, HB.out⟩
            case measure => simp [intOf]; omega
        · skip
          have hzr := Lib.hid (Laid.zero HD.out)
          have hnt := Lib.hid (Laid.not L s N who HD.out)
          have hll := Lib.hid HD.out.1
          have HT := Lib.hid (fun v u w h1 h2 h3 => take_o v u L s who HW.out w h1 h2 h3)
          have HS1 := Lib.hid (psL_len L s who (takeQ who) who)
          have HM := Lib.hid (fun h => back_math L s who hzr.out h)
          have LO := Lib.hid (HO.out.isL (by have := hll.out; omega))
          generalize psI L s who (takeQ who) = i1 at *
          generalize psE L s who (takeQ who) 140 = e1 at *
          generalize psL L s who (takeQ who) who = p at *
          clear HO HD
          go_wp2_with fail
          refine (HT.out _ _ _ LO.out (of_two LS.out) (by have := hll.out; omega)).mono ?_
          rintro e k4 ⟨vP, rfl, ho, hb⟩
          have HB4 := Lib.hid (Below.call HB.out hb)
          have LO := Lib.hid (LO.out.then hb)
          have LT := Lib.hid ((of_two LS.out).then hb)
          have LP := Lib.hid (ho.isL (by have := HS1.out; have := hll.out; omega))
          clear ho hb
          by_cases z1 : e1 = 0
          case neg =>
            have y1 : (e1 != 0) = true := by simpa using z1
            have y2 : (e1 != 140) = true := by simpa using hnt.out
            clear z1
            go_wp2
            go_ret
            exact ⟨by simp, HB4.out⟩
          subst z1
          obtain ⟨m1, m2, m3, m4⟩ := HM.out rfl
          subst m1
          have HS3 := Lib.hid (setAll_len L s who)
          have HK := Lib.hid (fun v u w h1 h2 => lacks_o v u (setAll L s who) s who w h1 h2)
          have HG := Lib.hid (fun v u w h1 h2 h3 => give_o v u (setAll L s who) s who w h1 h2 h3)
          rw [m2] at HK
          rw [m3, m4] at HG
          generalize psI (setAll L s who) s who (giveQ who) = i2 at *
          generalize setAll L s who = p at *
          clear m2 m3 m4
          go_wp2_with fail
          refine (HK.out _ _ _ LP.out LT.out).mono ?_
          rintro e k5 ⟨rfl, hb⟩
          have HB5 := Lib.hid (Below.call HB4.out hb)
          have LO := Lib.hid (LO.out.then hb)
          have LT := Lib.hid (LT.out.then hb)
          have LP := Lib.hid (LP.out.then hb)
          clear hb
          go_wp2_with fail
          refine (HG.out _ _ _ LP.out LT.out (by have := HS3.out; have := hll.out; omega)).mono ?_
          rintro e k6 ⟨vB, rfl, ho, hb⟩
          have HB6 := Lib.hid (Below.call HB5.out hb)
          have LO := Lib.hid (LO.out.then hb)
          have LB := Lib.hid (ho.isL (by have := hll.out; omega))
          clear ho hb
          go_wp2_with fail
          refine (Two.same_any _ _ L L _ (two_of LB.out) (two_of LO.out)).mono ?_
          rintro e wq ⟨rfl, dq, rfl⟩
          simp only [decide_true]
          go_wp2
          go_ret
          exact ⟨rfl, below_drewN HB6.out _⟩
      · skip
        have hzr := Lib.hid (Laid.zero HD.out)
        have hnt := Lib.hid (Laid.not L s N who HD.out)
        have hll := Lib.hid HD.out.1
        have HT := Lib.hid (fun v u w h1 h2 h3 => take_o v u L s who HW.out w h1 h2 h3)
        have HS1 := Lib.hid (psL_len L s who (takeQ who) who)
        have HM := Lib.hid (fun h => back_math L s who hzr.out h)
        have LO := Lib.hid (HO.out.isL (by have := hll.out; omega))
        generalize psI L s who (takeQ who) = i1 at *
        generalize psE L s who (takeQ who) 140 = e1 at *
        generalize psL L s who (takeQ who) who = p at *
        clear HO HD
        go_wp2_with fail
        refine (HT.out _ _ _ LO.out (of_two LS.out) (by have := hll.out; omega)).mono ?_
        rintro e k4 ⟨vP, rfl, ho, hb⟩
        have HB4 := Lib.hid (Below.call HB.out hb)
        have LO := Lib.hid (LO.out.then hb)
        have LT := Lib.hid ((of_two LS.out).then hb)
        have LP := Lib.hid (ho.isL (by have := HS1.out; have := hll.out; omega))
        clear ho hb
        by_cases z1 : e1 = 0
        case neg =>
          have y1 : (e1 != 0) = true := by simpa using z1
          have y2 : (e1 != 140) = true := by simpa using hnt.out
          clear z1
          go_wp2
          go_ret
          exact ⟨by simp, HB4.out⟩
        subst z1
        obtain ⟨m1, m2, m3, m4⟩ := HM.out rfl
        subst m1
        have HS3 := Lib.hid (setAll_len L s who)
        have HK := Lib.hid (fun v u w h1 h2 => lacks_o v u (setAll L s who) s who w h1 h2)
        have HG := Lib.hid (fun v u w h1 h2 h3 => give_o v u (setAll L s who) s who w h1 h2 h3)
        rw [m2] at HK
        rw [m3, m4] at HG
        generalize psI (setAll L s who) s who (giveQ who) = i2 at *
        generalize setAll L s who = p at *
        clear m2 m3 m4
        go_wp2_with fail
        refine (HK.out _ _ _ LP.out LT.out).mono ?_
        rintro e k5 ⟨rfl, hb⟩
        have HB5 := Lib.hid (Below.call HB4.out hb)
        have LO := Lib.hid (LO.out.then hb)
        have LT := Lib.hid (LT.out.then hb)
        have LP := Lib.hid (LP.out.then hb)
        clear hb
        go_wp2_with fail
        refine (HG.out _ _ _ LP.out LT.out (by have := HS3.out; have := hll.out; omega)).mono ?_
        rintro e k6 ⟨vB, rfl, ho, hb⟩
        have HB6 := Lib.hid (Below.call HB5.out hb)
        have LO := Lib.hid (LO.out.then hb)
        have LB := Lib.hid (ho.isL (by have := hll.out; omega))
        clear ho hb
        go_wp2_with fail
        refine (Two.same_any _ _ L L _ (two_of LB.out) (two_of LO.out)).mono ?_
        rintro e wq ⟨rfl, dq, rfl⟩
        simp only [decide_true]
        go_wp2
        go_ret
        exact ⟨rfl, below_drewN HB6.out _⟩
  · have hN := N2.out (by omega)
    subst hN
    go_wp2_with fail
    refine (HF.out _ _ (two_of LI.out)).mono ?_
    rintro e k3 ⟨vS, rfl, hs, hob, hb⟩
    have HB3 := Lib.hid (Below.call HB2.out hb)
    have LS := Lib.hid hs
    have HOB := Lib.hid hob
    have H2S := Lib.hid HO.out.lt
    have HO := Lib.hid (HO.out.below hb)
    clear hb hs hob
    have HS3 := Lib.hid HB3.out.size
    go_wp2
    go_loopw [11] (fun i wr => ∃ (k : Nat) (L : List Int), i = .int .i64 k ∧ k ≤ l.length ∧ KI.Own wr w.heap.size (.slice AO N cO) L ∧ Laid L s N ∧ Two.IsL wr wr.heap.size vS s ∧ Below w.heap.size w wr) (fun i _ => l.length - (intOf i).toNat)
    case atStart => exact ⟨0, L0, rfl, Nat.zero_le _, HO.out, HST.out, LS.out, HB3.out⟩
    case round =>
      obtain ⟨k, L, rfl, hk, hown, hlaid, hs, hbl⟩ := hrel
      have HO := Lib.hid hown
      have HD := Lib.hid hlaid
      have LS := Lib.hid hs
      have HB := Lib.hid hbl
      clear hown hlaid hs hbl
      by_cases hlt : k < l.length
      · by_cases hlt2 : k < N
        · obtain ⟨b, off, cap', hs, _, hb, _, hcell, hf⟩ := KI.cells (LL0.out.then HB.out) (by omega)
          simp only [Value.slice.injEq] at hs
          obtain ⟨rfl, _, rfl⟩ := hs
          have e1 := hcell k hlt
          have hfx := Lib.hid (hf k hlt)
          have HK := Lib.hid (HIN.out vS (k : Int) wr LS.out)
          have hmem : (decide ((k : Int) ∈ s) = true ↔ (k : Int) ∈ s) := decide_eq_true_iff
          clear hcell hf
          generalize l.getD k 0 = x at *
          have HMEM := Lib.hid hmem
          clear hmem
          generalize decide ((k : Int) ∈ s) = q at *
          by_cases hx0 : 0 ≤ x
          · by_cases hx8 : x ≤ 8
            · go_wp2_with fail
              refine HK.out.mono ?_
              rintro e kk ⟨rfl, rfl⟩
              cases q
              · obtain ⟨g, cp, hv5, hg1, hg2, hg3⟩ := HO.out.shape (by have := HD.out.1; omega)
                rw [HD.out.1] at hv5 hg3
                simp only [Value.slice.injEq] at hv5
                obtain ⟨rfl, _, rfl⟩ := hv5
                obtain ⟨f1, f2⟩ := KI.Own.at HO.out HD.out.1 k (by omega)
                generalize L.getD k 0 = old at *
                go_wp2
                go_roundw
                case rel =>
                  have hp := KI.Own.put HO.out HD.out.1 k x hfx.out
                  have hfar : Two.IsL (wr.setCell ⟨g, k, none⟩ (.int .i64 x)) (wr.setCell ⟨g, k, none⟩ (.int .i64 x)).heap.size vS s := by
                    have h := LS.out.far g (fun q hq => by
                      have a1 := HOB.out q hq
                      have a2 := (H2S.out g rfl).2
                      omega) k (.int .i64 x)
                    simpa using h
                  exact ⟨k + 1, L.set k x, num_i (by omega), by omega, hp.1, HD.out.put k x ⟨hx0, hx8⟩ (fun h => by have := HMEM.out.2 h; cases this), hfar, HB.out.setCell hg1 _⟩
                case measure => simp [intOf]; omega
              · go_wp2
                go_roundw
                case rel => exact ⟨k + 1, L, num_i (by omega), by omega, HO.out, HD.out, LS.out, HB.out⟩
                case measure => simp [intOf]; omega
            · go_wp2
              go_roundw
              case rel => exact ⟨k + 1, L, num_i (by omega), by omega, HO.out, HD.out, LS.out, HB.out⟩
              case measure => simp [intOf]; omega
          · go_wp2
            go_roundw
            case rel => exact ⟨k + 1, L, num_i (by omega), by omega, HO.out, HD.out, LS.out, HB.out⟩
            case measure => simp [intOf]; omega
        · skip
          have hzr := Lib.hid (Laid.zero HD.out)
          have hnt := Lib.hid (Laid.not L s N who HD.out)
          have hll := Lib.hid HD.out.1
          have HT := Lib.hid (fun v u w h1 h2 h3 => take_o v u L s who HW.out w h1 h2 h3)
          have HS1 := Lib.hid (psL_len L s who (takeQ who) who)
          have HM := Lib.hid (fun h => back_math L s who hzr.out h)
          have LO := Lib.hid (HO.out.isL (by have := hll.out; omega))
          generalize psI L s who (takeQ who) = i1 at *
          generalize psE L s who (takeQ who) 140 = e1 at *
          generalize psL L s who (takeQ who) who = p at *
          clear HO HD
          go_wp2_with fail
          refine (HT.out _ _ _ LO.out (of_two LS.out) (by have := hll.out; omega)).mono ?_
          rintro e k4 ⟨vP, rfl, ho, hb⟩
          have HB4 := Lib.hid (Below.call HB.out hb)
          have LO := Lib.hid (LO.out.then hb)
          have LT := Lib.hid ((of_two LS.out).then hb)
          have LP := Lib.hid (ho.isL (by have := HS1.out; have := hll.out; omega))
          clear ho hb
          by_cases z1 : e1 = 0
          case neg =>
            have y1 : (e1 != 0) = true := by simpa using z1
            have y2 : (e1 != 140) = true := by simpa using hnt.out
            clear z1
            go_wp2
            go_ret
            exact ⟨by simp, HB4.out⟩
          subst z1
          obtain ⟨m1, m2, m3, m4⟩ := HM.out rfl
          subst m1
          have HS3 := Lib.hid (setAll_len L s who)
          have HK := Lib.hid (fun v u w h1 h2 => lacks_o v u (setAll L s who) s who w h1 h2)
          have HG := Lib.hid (fun v u w h1 h2 h3 => give_o v u (setAll L s who) s who w h1 h2 h3)
          rw [m2] at HK
          rw [m3, m4] at HG
          generalize psI (setAll L s who) s who (giveQ who) = i2 at *
          generalize setAll L s who = p at *
          clear m2 m3 m4
          go_wp2_with fail
          refine (HK.out _ _ _ LP.out LT.out).mono ?_
          rintro e k5 ⟨rfl, hb⟩
          have HB5 := Lib.hid (Below.call HB4.out hb)
          have LO := Lib.hid (LO.out.then hb)
          have LT := Lib.hid (LT.out.then hb)
          have LP := Lib.hid (LP.out.then hb)
          clear hb
          go_wp2_with fail
          refine (HG.out _ _ _ LP.out LT.out (by have := HS3.out; have := hll.out; omega)).mono ?_
          rintro e k6 ⟨vB, rfl, ho, hb⟩
          have HB6 := Lib.hid (Below.call HB5.out hb)
          have LO := Lib.hid (LO.out.then hb)
          have LB := Lib.hid (ho.isL (by have := hll.out; omega))
          clear ho hb
          go_wp2_with fail
          refine (Two.same_any _ _ L L _ (two_of LB.out) (two_of LO.out)).mono ?_
          rintro e wq ⟨rfl, dq, rfl⟩
          simp only [decide_true]
          go_wp2
          go_ret
          exact ⟨rfl, below_drewN HB6.out _⟩
      · skip
        have hzr := Lib.hid (Laid.zero HD.out)
        have hnt := Lib.hid (Laid.not L s N who HD.out)
        have hll := Lib.hid HD.out.1
        have HT := Lib.hid (fun v u w h1 h2 h3 => take_o v u L s who HW.out w h1 h2 h3)
        have HS1 := Lib.hid (psL_len L s who (takeQ who) who)
        have HM := Lib.hid (fun h => back_math L s who hzr.out h)
        have LO := Lib.hid (HO.out.isL (by have := hll.out; omega))
        generalize psI L s who (takeQ who) = i1 at *
        generalize psE L s who (takeQ who) 140 = e1 at *
        generalize psL L s who (takeQ who) who = p at *
        clear HO HD
        go_wp2_with fail
        refine (HT.out _ _ _ LO.out (of_two LS.out) (by have := hll.out; omega)).mono ?_
        rintro e k4 ⟨vP, rfl, ho, hb⟩
        have HB4 := Lib.hid (Below.call HB.out hb)
        have LO := Lib.hid (LO.out.then hb)
        have LT := Lib.hid ((of_two LS.out).then hb)
        have LP := Lib.hid (ho.isL (by have := HS1.out; have := hll.out; omega))
        clear ho hb
        by_cases z1 : e1 = 0
        case neg =>
          have y1 : (e1 != 0) = true := by simpa using z1
          have y2 : (e1 != 140) = true := by simpa using hnt.out
          clear z1
          go_wp2
          go_ret
          exact ⟨by simp, HB4.out⟩
        subst z1
        obtain ⟨m1, m2, m3, m4⟩ := HM.out rfl
        subst m1
        have HS3 := Lib.hid (setAll_len L s who)
        have HK := Lib.hid (fun v u w h1 h2 => lacks_o v u (setAll L s who) s who w h1 h2)
        have HG := Lib.hid (fun v u w h1 h2 h3 => give_o v u (setAll L s who) s who w h1 h2 h3)
        rw [m2] at HK
        rw [m3, m4] at HG
        generalize psI (setAll L s who) s who (giveQ who) = i2 at *
        generalize setAll L s who = p at *
        clear m2 m3 m4
        go_wp2_with fail
        refine (HK.out _ _ _ LP.out LT.out).mono ?_
        rintro e k5 ⟨rfl, hb⟩
        have HB5 := Lib.hid (Below.call HB4.out hb)
        have LO := Lib.hid (LO.out.then hb)
        have LT := Lib.hid (LT.out.then hb)
        have LP := Lib.hid (LP.out.then hb)
        clear hb
        go_wp2_with fail
        refine (HG.out _ _ _ LP.out LT.out (by have := HS3.out; have := hll.out; omega)).mono ?_
        rintro e k6 ⟨vB, rfl, ho, hb⟩
        have HB6 := Lib.hid (Below.call HB5.out hb)
        have LO := Lib.hid (LO.out.then hb)
        have LB := Lib.hid (ho.isL (by have := hll.out; omega))
        clear ho hb
        go_wp2_with fail
        refine (Two.same_any _ _ L L _ (two_of LB.out) (two_of LO.out)).mono ?_
        rintro e wq ⟨rfl, dq, rfl⟩
        simp only [decide_true]
        go_wp2
        go_ret
        exact ⟨rfl, below_drewN HB6.out _⟩
end Go.Proofs.Ytacjonncakhhmaa
