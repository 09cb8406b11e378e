/- Mutexes: who is stuck, as the reference tells it. -/
import Derived.Test.YtbflkdkbfidleaaUF
namespace Go.Proofs.Ytbflkdkbfidleaa
open Go.RowKit
def cntL (l : List Int) : Nat := cnt (fun i : Nat => decide ((i : Int) ∈ l))
theorem cnt_le (s : Nat → Bool) : cnt s ≤ 9 := by
  have := fun i => Bool.toNat_le (s i)
  have h0 := this 0; have h1 := this 1; have h2 := this 2; have h3 := this 3; have h4 := this 4; have h5 := this 5; have h6 := this 6; have h7 := this 7; have h8 := this 8
  unfold cnt
  omega
theorem cntL_add (l : List Int) (a : Nat) (ha : a < 9) (h : (a : Int) ∉ l) : cntL l < cntL (l ++ [(a : Int)]) := by
  have := cnt_set (fun (i : Nat) => decide ((i : Int) ∈ l ++ [(a : Int)])) a ha (by simp)
  have e : (fun i : Nat => if i = a then false else decide ((i : Int) ∈ l ++ [(a : Int)])) = fun i : Nat => decide ((i : Int) ∈ l) := by
    funext i
    by_cases hi : i = a
    · rw [if_pos hi, hi, decide_eq_false h]
    · rw [if_neg hi, decide_eq_decide, List.mem_append, List.mem_singleton]
      constructor
      · rintro (k | k)
        · exact k
        · omega
      · exact Or.inl
  rw [e] at this
  exact this
/-- May an arm go on, once those of a list do? -/
def Fr (t ws : List Int) (l : List Int) (a : Nat) : Prop := nx t ws a = 0 ∨ ((nx t ws a : Nat) : Int) ∈ l
/-- Those of a list are arms that get on. -/
def OnI (t ws : List Int) (l : List Int) : Prop := ∀ x ∈ l, ∃ m : Nat, x = m ∧ m ≤ 8 ∧ On (nx t ws) m
def Shut (t ws : List Int) (l : List Int) : Prop := ∀ a, 1 ≤ a → a ≤ 8 → Fr t ws l a → (a : Int) ∈ l
/-- Where one is who goes through the arms. -/
def Way (t ws : List Int) (n who : Nat) (l : List Int) : Prop :=
  n + 1 ≤ cntL l ∨ ((n ≤ cntL l ∨ Shut t ws l) ∧ ∀ a, 1 ≤ a → a < who → Fr t ws l a → (a : Int) ∈ l)
theorem Way.start {t ws : List Int} {n : Nat} {l : List Int} (h : n ≤ cntL l ∨ Shut t ws l) : Way t ws n 1 l := .inr ⟨h, fun a h1 h2 => by omega⟩
theorem Way.skip {t ws : List Int} {n who : Nat} {l : List Int} (h : Way t ws n who l) (hf : Fr t ws l who → (who : Int) ∈ l) : Way t ws n (who + 1) l := by
  rcases h with h | ⟨h, k⟩
  · exact .inl h
  · refine .inr ⟨h, fun a h1 h2 h3 => ?_⟩
    by_cases e : a = who
    · subst e; exact hf h3
    · exact k a h1 (by omega) h3
theorem Way.add {t ws : List Int} {n who : Nat} {l : List Int} (h : Way t ws n who l) (h1 : 1 ≤ who) (h2 : who ≤ 8) (hf : Fr t ws l who) (hn : (who : Int) ∉ l) : Way t ws n (who + 1) (l ++ [(who : Int)]) := by
  have hc := cntL_add l who (by omega) hn
  rcases h with h | ⟨h | h, k⟩
  · exact .inl (by omega)
  · exact .inl (by omega)
  · exact absurd (h who h1 h2 hf) hn
theorem Way.stop {t ws : List Int} {n : Nat} {l : List Int} (h : Way t ws n 9 l) : n + 1 ≤ cntL l ∨ Shut t ws l := by
  rcases h with h | ⟨_, k⟩
  · exact .inl h
  · exact .inr fun a h1 h2 h3 => k a h1 (by omega) h3
theorem OnI.add {t ws : List Int} {l : List Int} (h : OnI t ws l) (who : Nat) (h2 : who ≤ 8) (hf : Fr t ws l who) : OnI t ws (l ++ [(who : Int)]) := by
  intro x hx
  rcases List.mem_append.1 hx with hx | hx
  · exact h x hx
  · rw [List.mem_singleton] at hx
    refine ⟨who, hx, h2, .step _ ?_⟩
    rcases hf with hf | hf
    · rw [hf]; exact .zero
    · obtain ⟨m, e, _, ho⟩ := h _ hf
      rw [show nx t ws who = m by omega]
      exact ho
theorem OnI.done {t ws : List Int} {l : List Int} (hr : rgO t = true) (h : OnI t ws l) (hs : 10 ≤ cntL l ∨ Shut t ws l) (a : Nat) (h1 : 1 ≤ a) (h8 : a ≤ 8) : decide ((a : Int) ∈ l) = !stB t ws a := by
  have hs : Shut t ws l := by
    rcases hs with hs | hs
    · have := cnt_le (fun i : Nat => decide ((i : Int) ∈ l))
      unfold cntL at hs
      omega
    · exact hs
  by_cases hm : (a : Int) ∈ l
  · obtain ⟨m, e, _, ho⟩ := h _ hm
    rw [show a = m by omega, stB_false ho, ← show a = m by omega]
    exact decide_eq_true hm
  · rw [decide_eq_false hm, stB_true]
    · rfl
    · intro ho
      refine On.closed (S := fun a => (1 ≤ a ∧ a ≤ 8) ∧ (a : Int) ∉ l) (by omega) (fun b hb => ?_) ho ⟨⟨h1, h8⟩, hm⟩
      obtain ⟨⟨b1, b2⟩, b3⟩ := hb
      have h0 : ¬ Fr t ws l b := fun k => b3 (hs b b1 b2 k)
      have := nx_le hr ws b
      exact ⟨⟨by by_cases e : nx t ws b = 0; exact absurd (Or.inl e) h0; omega, this⟩, fun k => h0 (Or.inr k)⟩
set_option maxRecDepth 100000 in
set_option maxHeartbeats 4000000 in
theorem rstuck_any (v u : Value) (t ws : List Int) (w : World) (hv : KI.IsL w w.heap.size v t) (hu : KI.IsL w w.heap.size u ws) :
    Calls Try.prog 22 #[v, u] w fun e w' => ∃ v', e = .returned v' ∧ KI.Own w' w.heap.size v' (stL t ws) ∧ Below w.heap.size w w' := by
  have HV := Lib.hid hv
  have HU := Lib.hid hu
  have HR := Lib.hid (rright_o v t w hv)
  obtain ⟨A, c, rfl, hc⟩ := hv.shape
  obtain ⟨A2, c2, rfl, hc2⟩ := hu.shape
  have hl := hv.2.2
  have hl2 := hu.2.2
  have hS : stL t ws = if rgO t && decide (ws.length ≤ 8) then stK t ws 9 else [] := rfl
  rw [hS]
  have HD := Lib.hid (fun l => OnI.done (t := t) (ws := ws) (l := l))
  have HRG := Lib.hid (fun (h : rgO t = true) k => rg_at h k)
  clear hS hv hu
  generalize rgO t = q at *
  cases q
  · simp only [Bool.false_and, Bool.false_eq_true, if_false]
    go_enter Try.func22, Try.ntmps22
    go_wp2_with fail
    refine HR.out.mono ?_
    rintro e w1 ⟨rfl, hb⟩
    go_wp2
    go_ret
    exact ⟨_, rfl, Lk.Own.nil _ _, hb⟩
  by_cases h8 : (8 : Int) < ws.length
  · rw [show decide (ws.length ≤ 8) = false from decide_eq_false (by omega)]
    simp only [Bool.and_false, Bool.false_eq_true, if_false]
    go_enter Try.func22, Try.ntmps22
    go_wp2_with fail
    refine HR.out.mono ?_
    rintro e w1 ⟨rfl, hb⟩
    go_wp2
    go_ret
    exact ⟨_, rfl, Lk.Own.nil _ _, hb⟩
  rw [show decide (ws.length ≤ 8) = true from decide_eq_true (by omega)]
  simp only [Bool.and_self, if_true]
  go_enter Try.func22, Try.ntmps22
  go_wp2_with fail
  refine HR.out.mono ?_
  rintro e w1 ⟨rfl, hb⟩
  have HB1 := Lib.hid hb
  clear hb HR
  go_wp2
  rw [show decide ((8 : Int) < ws.length) = false from decide_eq_false (by omega)]
  go_loopg [6, 7] 10 (fun gh u i wr => ∃ n : Nat, n ≤ 10 ∧ gh = 10 - n ∧ i = .int .i64 n ∧ ∃ on, KI.Own wr w.heap.size u on ∧ OnI t ws on ∧ on.length ≤ 8 * n ∧ (n ≤ cntL on ∨ Shut t ws on) ∧ Below w.heap.size w wr)
  case atStart => exact ⟨0, by omega, rfl, rfl, [], Lk.Own.nil _ _, fun x hx => by simp at hx, Nat.le_refl _, .inl (Nat.zero_le _), HB1.out⟩
  case round =>
    obtain ⟨n, hn, rfl, rfl, on, hown, hoi, hlen, hway, hbl⟩ := hrel
    have HO := Lib.hid hown
    have HI := Lib.hid hoi
    have HL := Lib.hid hlen
    have HWA := Lib.hid hway
    have HB := Lib.hid hbl
    clear hown hoi hlen hway hbl
    by_cases hlt : n < 10
    · go_wp2
      rw [show decide ((n : Int) < 10) = true from decide_eq_true (by omega)]
      go_loopg [6, 8] 8 (fun gh u i wr => ∃ k : Nat, 1 ≤ k ∧ k ≤ 9 ∧ gh = 9 - k ∧ i = .int .i64 k ∧ ∃ on, KI.Own wr w.heap.size u on ∧ OnI t ws on ∧ on.length + 1 ≤ 8 * n + k ∧ Way t ws n k on ∧ Below w.heap.size w wr)
      case atStart => exact ⟨1, by omega, by omega, rfl, rfl, on, HO.out, HI.out, by have := HL.out; omega, Way.start HWA.out, HB.out⟩
      case round =>
        clear HO HI HL HWA HB on
        obtain ⟨k, hk1, hk9, rfl, rfl, on, hown, hoi, hlen, hway, hbl⟩ := hrel
        have HO := Lib.hid hown
        have HI := Lib.hid hoi
        have HL := Lib.hid hlen
        have HWA := Lib.hid hway
        have HB := Lib.hid hbl
        clear hown hoi hlen hway hbl
        by_cases hk : k < 9
        · have HIN := Lib.hid (fun x => Two.in_any _ on x wr (two_of (HO.out.isL (by have := HL.out; omega))))
          have hFr : Fr t ws on k = (nx t ws k = 0 ∨ ((nx t ws k : Nat) : Int) ∈ on) := rfl
          by_cases hkl : (ws.length : Int) < k
          · have HFR := Lib.hid (show Fr t ws on k from .inl (if_neg (by omega)))
            clear hFr
            go_wp2_with fail
            refine (HIN.out (k : Int)).mono ?_
            rintro e w3 ⟨rfl, rfl⟩
            by_cases hmem : (k : Int) ∈ on
            · have HM := Lib.hid hmem
              rw [decide_eq_true hmem]
              clear hmem
              go_wp2
              go_roundg (9 - (k + 1))
              case rel => exact ⟨k + 1, by omega, by omega, rfl, num_i (by omega), on, HO.out, HI.out, by have := HL.out; omega, HWA.out.skip (fun _ => HM.out), HB.out⟩
              case measure => omega
            · have HM := Lib.hid hmem
              rw [decide_eq_false hmem]
              clear hmem
              go_wp2_with (at_builtin; refine Lk.wpList_app (K := KI) _ rfl _ _ rfl rfl w.heap.size (wr.heap.size + 1) _ _ on [(k : Int)] rfl rfl (HO.out.alloc _) (Lk.IsL.lit (K := KI) _ (k : Int) _ (show fits (k : Int) by unfold fits; omega) rfl wr.heap.size rfl) ?c1 ?c2 ?_)
              case c1 => have := HL.out; simp; omega
              case c2 => have := HB.out.size; simp; omega
              intro v1 w4 hown hgrow _
              have HB4 := Lib.hid (Lk.Own.grow' (HO.out.alloc _) (Below.al HB.out _) (by have := HB.out.size; simp; omega) hgrow)
              have HO4 := Lib.hid hown
              clear hown hgrow
              go_wp2
              go_roundg (9 - (k + 1))
              case rel => exact ⟨k + 1, by omega, by omega, rfl, num_i (by omega), on ++ [(k : Int)], HO4.out, HI.out.add k (by omega) HFR.out, by have := HL.out; rw [List.length_append, List.length_singleton]; omega, HWA.out.add (by omega) (by omega) HFR.out HM.out, HB4.out⟩
              case measure => omega
          · obtain ⟨j, rfl⟩ : ∃ j, k = j + 1 := ⟨k - 1, by omega⟩
            have hj : j < ws.length := by omega
            rw [nx_at t ws j hj] at hFr
            obtain ⟨b, off, cap', hs, _, hb, _, hcell, _⟩ := KI.cells (HU.out.then HB.out) (by omega)
            simp only [Value.slice.injEq] at hs
            obtain ⟨rfl, _, rfl⟩ := hs
            have e1 := hcell j hj
            clear hcell
            have hD : hdV t (ws.getD j 0) = if hasB t.length (ws.getD j 0) then t.getD (ws.getD j 0).toNat 0 else 0 := rfl
            generalize ws.getD j 0 = x at *
            have hkl2 : (j : Int) + 1 ≤ ws.length := by omega
            clear hkl
            have hbk : decide ((ws.length : Int) < (j : Int) + 1) = false := decide_eq_false (by omega)
            have HH := Lib.hid (hasB_iff t.length x)
            have HTR := Lib.hid (fun i => HRG.out trivial i)
            by_cases hx0 : x < 0
            · rw [if_neg (by intro h; have := HH.out.1 h; omega)] at hD
              have HFR := Lib.hid (show Fr t ws on (j + 1) by rw [hFr, hD]; exact .inl rfl)
              clear hFr hD
              go_wp2_with fail
              refine (HIN.out ((j : Int) + 1)).mono ?_
              rintro e w3 ⟨rfl, rfl⟩
              by_cases hmem : ((j : Int) + 1) ∈ on
              · have HM := Lib.hid hmem
                rw [decide_eq_true hmem]
                clear hmem
                go_wp2
                go_roundg (9 - (j + 1 + 1))
                case rel => exact ⟨j + 1 + 1, by omega, by omega, rfl, num_i (by omega), on, HO.out, HI.out, by have := HL.out; omega, HWA.out.skip (fun _ => HM.out), HB.out⟩
                case measure => omega
              · have HM := Lib.hid hmem
                rw [decide_eq_false hmem]
                clear hmem
                go_wp2_with (at_builtin; refine Lk.wpList_app (K := KI) _ rfl _ _ rfl rfl w.heap.size (wr.heap.size + 1) _ _ on [((j : Int) + 1)] rfl rfl (HO.out.alloc _) (Lk.IsL.lit (K := KI) _ ((j : Int) + 1) _ (show fits ((j : Int) + 1) by unfold fits; omega) rfl wr.heap.size rfl) ?c1 ?c2 ?_)
                case c1 => have := HL.out; simp; omega
                case c2 => have := HB.out.size; simp; omega
                intro v1 w4 hown hgrow _
                have HB4 := Lib.hid (Lk.Own.grow' (HO.out.alloc _) (Below.al HB.out _) (by have := HB.out.size; simp; omega) hgrow)
                have HO4 := Lib.hid hown
                clear hown hgrow
                go_wp2
                go_roundg (9 - (j + 1 + 1))
                case rel => exact ⟨j + 1 + 1, by omega, by omega, rfl, num_i (by omega), on ++ [((j : Int) + 1)], HO4.out, HI.out.add (j + 1) (by omega) HFR.out, by have := HL.out; rw [List.length_append, List.length_singleton]; omega, HWA.out.add (by omega) (by omega) HFR.out HM.out, HB4.out⟩
                case measure => omega
            by_cases hx1 : (t.length : Int) ≤ x
            · rw [if_neg (by intro h; have := HH.out.1 h; omega)] at hD
              have HFR := Lib.hid (show Fr t ws on (j + 1) by rw [hFr, hD]; exact .inl rfl)
              clear hFr hD
              go_wp2_with fail
              refine (HIN.out ((j : Int) + 1)).mono ?_
              rintro e w3 ⟨rfl, rfl⟩
              by_cases hmem : ((j : Int) + 1) ∈ on
              · have HM := Lib.hid hmem
                rw [decide_eq_true hmem]
                clear hmem
                go_wp2
                go_roundg (9 - (j + 1 + 1))
                case rel => exact ⟨j + 1 + 1, by omega, by omega, rfl, num_i (by omega), on, HO.out, HI.out, by have := HL.out; omega, HWA.out.skip (fun _ => HM.out), HB.out⟩
                case measure => omega
              · have HM := Lib.hid hmem
                rw [decide_eq_false hmem]
                clear hmem
                go_wp2_with (at_builtin; refine Lk.wpList_app (K := KI) _ rfl _ _ rfl rfl w.heap.size (wr.heap.size + 1) _ _ on [((j : Int) + 1)] rfl rfl (HO.out.alloc _) (Lk.IsL.lit (K := KI) _ ((j : Int) + 1) _ (show fits ((j : Int) + 1) by unfold fits; omega) rfl wr.heap.size rfl) ?c1 ?c2 ?_)
                case c1 => have := HL.out; simp; omega
                case c2 => have := HB.out.size; simp; omega
                intro v1 w4 hown hgrow _
                have HB4 := Lib.hid (Lk.Own.grow' (HO.out.alloc _) (Below.al HB.out _) (by have := HB.out.size; simp; omega) hgrow)
                have HO4 := Lib.hid hown
                clear hown hgrow
                go_wp2
                go_roundg (9 - (j + 1 + 1))
                case rel => exact ⟨j + 1 + 1, by omega, by omega, rfl, num_i (by omega), on ++ [((j : Int) + 1)], HO4.out, HI.out.add (j + 1) (by omega) HFR.out, by have := HL.out; rw [List.length_append, List.length_singleton]; omega, HWA.out.add (by omega) (by omega) HFR.out HM.out, HB4.out⟩
                case measure => omega
            rw [if_pos (HH.out.2 (by omega))] at hD
            obtain ⟨m, rfl⟩ := Int.eq_ofNat_of_zero_le (show 0 ≤ x by omega)
            rw [show ((m : Int)).toNat = m from rfl] at hD
            obtain ⟨r0, r8⟩ := HTR.out m
            obtain ⟨b3, off3, cap3, hs, _, hb3, _, hcell, _⟩ := KI.cells (HV.out.then HB.out) (by omega)
            simp only [Value.slice.injEq] at hs
            obtain ⟨rfl, _, rfl⟩ := hs
            have e2 := hcell m (by omega)
            clear hcell
            generalize t.getD m 0 = y at *
            rw [hD] at hFr
            clear hD
            by_cases hy0 : y = 0
            · subst hy0
              have HFR := Lib.hid (show Fr t ws on (j + 1) by rw [hFr]; exact .inl rfl)
              clear hFr
              go_wp2_with fail
              refine (HIN.out ((j : Int) + 1)).mono ?_
              rintro e w3 ⟨rfl, rfl⟩
              by_cases hmem : ((j : Int) + 1) ∈ on
              · have HM := Lib.hid hmem
                rw [decide_eq_true hmem]
                clear hmem
                go_wp2
                go_roundg (9 - (j + 1 + 1))
                case rel => exact ⟨j + 1 + 1, by omega, by omega, rfl, num_i (by omega), on, HO.out, HI.out, by have := HL.out; omega, HWA.out.skip (fun _ => HM.out), HB.out⟩
                case measure => omega
              · have HM := Lib.hid hmem
                rw [decide_eq_false hmem]
                clear hmem
                go_wp2_with (at_builtin; refine Lk.wpList_app (K := KI) _ rfl _ _ rfl rfl w.heap.size (wr.heap.size + 1) _ _ on [((j : Int) + 1)] rfl rfl (HO.out.alloc _) (Lk.IsL.lit (K := KI) _ ((j : Int) + 1) _ (show fits ((j : Int) + 1) by unfold fits; omega) rfl wr.heap.size rfl) ?c1 ?c2 ?_)
                case c1 => have := HL.out; simp; omega
                case c2 => have := HB.out.size; simp; omega
                intro v1 w4 hown hgrow _
                have HB4 := Lib.hid (Lk.Own.grow' (HO.out.alloc _) (Below.al HB.out _) (by have := HB.out.size; simp; omega) hgrow)
                have HO4 := Lib.hid hown
                clear hown hgrow
                go_wp2
                go_roundg (9 - (j + 1 + 1))
                case rel => exact ⟨j + 1 + 1, by omega, by omega, rfl, num_i (by omega), on ++ [((j : Int) + 1)], HO4.out, HI.out.add (j + 1) (by omega) HFR.out, by have := HL.out; rw [List.length_append, List.length_singleton]; omega, HWA.out.add (by omega) (by omega) HFR.out HM.out, HB4.out⟩
                case measure => omega
            obtain ⟨p, rfl⟩ := Int.eq_ofNat_of_zero_le r0
            rw [show ((p : Int)).toNat = p from rfl] at hFr
            have hyb : ((p : Int) == 0) = false := by rw [beq_eq_false_iff_ne]; exact hy0
            by_cases hpm : (p : Int) ∈ on
            · have HP := Lib.hid (decide_eq_true hpm)
              have HFR := Lib.hid (show Fr t ws on (j + 1) by rw [hFr]; exact .inr hpm)
              clear hFr hpm
              go_wp2_with fail
              refine (HIN.out (p : Int)).mono ?_
              rintro e w3 ⟨rfl, rfl⟩
              rw [HP.out]
              go_wp2_with fail
              refine (HIN.out ((j : Int) + 1)).mono ?_
              rintro e w3 ⟨rfl, rfl⟩
              by_cases hmem : ((j : Int) + 1) ∈ on
              · have HM := Lib.hid hmem
                rw [decide_eq_true hmem]
                clear hmem
                go_wp2
                go_roundg (9 - (j + 1 + 1))
                case rel => exact ⟨j + 1 + 1, by omega, by omega, rfl, num_i (by omega), on, HO.out, HI.out, by have := HL.out; omega, HWA.out.skip (fun _ => HM.out), HB.out⟩
                case measure => omega
              · have HM := Lib.hid hmem
                rw [decide_eq_false hmem]
                clear hmem
                go_wp2_with (at_builtin; refine Lk.wpList_app (K := KI) _ rfl _ _ rfl rfl w.heap.size (wr.heap.size + 1) _ _ on [((j : Int) + 1)] rfl rfl (HO.out.alloc _) (Lk.IsL.lit (K := KI) _ ((j : Int) + 1) _ (show fits ((j : Int) + 1) by unfold fits; omega) rfl wr.heap.size rfl) ?c1 ?c2 ?_)
                case c1 => have := HL.out; simp; omega
                case c2 => have := HB.out.size; simp; omega
                intro v1 w4 hown hgrow _
                have HB4 := Lib.hid (Lk.Own.grow' (HO.out.alloc _) (Below.al HB.out _) (by have := HB.out.size; simp; omega) hgrow)
                have HO4 := Lib.hid hown
                clear hown hgrow
                go_wp2
                go_roundg (9 - (j + 1 + 1))
                case rel => exact ⟨j + 1 + 1, by omega, by omega, rfl, num_i (by omega), on ++ [((j : Int) + 1)], HO4.out, HI.out.add (j + 1) (by omega) HFR.out, by have := HL.out; rw [List.length_append, List.length_singleton]; omega, HWA.out.add (by omega) (by omega) HFR.out HM.out, HB4.out⟩
                case measure => omega
            · have HP := Lib.hid (decide_eq_false hpm)
              have HFR := Lib.hid (show ¬ Fr t ws on (j + 1) by rw [hFr]; intro h; rcases h with h | h; exact hy0 (by omega); exact hpm h)
              clear hFr hpm
              go_wp2_with fail
              refine (HIN.out (p : Int)).mono ?_
              rintro e w3 ⟨rfl, rfl⟩
              rw [HP.out]
              go_wp2
              go_roundg (9 - (j + 1 + 1))
              case rel => exact ⟨j + 1 + 1, by omega, by omega, rfl, num_i (by omega), on, HO.out, HI.out, by have := HL.out; omega, HWA.out.skip (fun h => absurd h HFR.out), HB.out⟩
              case measure => omega
        · obtain rfl : k = 9 := by omega
          go_wp2
          go_roundg (10 - (n + 1))
          case measure => omega
          case rel => exact ⟨n + 1, by omega, rfl, num_i (by omega), on, HO.out, HI.out, by have := HL.out; omega, HWA.out.stop, HB.out⟩
    · obtain rfl : n = 10 := by omega
      have HDO := Lib.hid (fun a h1 h8 => HD.out on trivial HI.out HWA.out a h1 h8)
      have HIN := Lib.hid (HO.out.isL (by have := HL.out; omega))
      have HBS := Lib.hid HB.out.size
      clear HD HI HWA HL HO
      obtain ⟨W, hW⟩ : ∃ W, W = wr := ⟨_, rfl⟩
      subst hW
      go_wp2
      go_loopg [5, 11] 8 (fun gh u i wr => ∃ k : Nat, 1 ≤ k ∧ k ≤ 9 ∧ gh = 9 - k ∧ i = .int .i64 k ∧ KI.Own wr W.heap.size u (stK t ws k) ∧ Below W.heap.size W wr)
      case atStart => exact ⟨1, by omega, by omega, rfl, rfl, by rw [stK_one]; exact Lk.Own.nil _ _, Below.refl _ _⟩
      case round =>
        obtain ⟨k, hk1, hk9, rfl, rfl, hown, hbl⟩ := hrel
        have HO := Lib.hid hown
        have HB2 := Lib.hid hbl
        clear hown hbl
        by_cases hlt : k < 9
        · have HSN := Lib.hid (stK_snoc t ws k)
          have HL := Lib.hid (stK_len t ws k)
          have HII := Lib.hid (Two.in_any _ on (k : Int) wr (two_of (HIN.out.then HB2.out)))
          have HDK := HDO.out k hk1 (by omega)
          rw [HDK] at HII
          clear HDK
          generalize stK t ws k = lk at *
          cases hq : stB t ws k
          · rw [hq] at HSN HII
            simp only [Bool.false_eq_true, if_false, List.append_nil] at HSN
            clear hq
            go_wp2_with fail
            refine HII.out.mono ?_
            rintro e w3 ⟨rfl, rfl⟩
            go_wp2
            go_roundg (9 - (k + 1))
            case measure => omega
            case rel => exact ⟨k + 1, by omega, by omega, rfl, num_i (by omega), by rw [HSN.out]; exact HO.out, HB2.out⟩
          · rw [hq] at HSN HII
            simp only [if_true] at HSN
            clear hq
            go_wp2_with fail
            refine HII.out.mono ?_
            rintro e w3 ⟨rfl, rfl⟩
            go_wp2_with (at_builtin; refine Lk.wpList_app (K := KI) _ rfl _ _ rfl rfl W.heap.size (wr.heap.size + 1) _ _ lk [(k : Int)] rfl rfl (HO.out.alloc _) (Lk.IsL.lit (K := KI) _ (k : Int) _ (show fits (k : Int) by unfold fits; omega) rfl wr.heap.size rfl) ?c1 ?c2 ?_)
            case c1 => have := HL.out; simp; omega
            case c2 => have := HB2.out.size; simp; omega
            intro v1 w4 hown hgrow _
            have HB4 := Lib.hid (Lk.Own.grow' (HO.out.alloc _) (Below.al HB2.out _) (by have := HB2.out.size; simp; omega) hgrow)
            have HO4 := Lib.hid hown
            clear hown hgrow
            go_wp2
            go_roundg (9 - (k + 1))
            case measure => omega
            case rel => exact ⟨k + 1, by omega, by omega, rfl, num_i (by omega), by rw [HSN.out]; exact HO4.out, HB4.out⟩
        · obtain rfl : k = 9 := by omega
          go_wp2
          go_ret
          exact ⟨_, rfl, HO.out.mono HBS.out, Below.call HB.out HB2.out⟩
end Go.Proofs.Ytbflkdkbfidleaa
