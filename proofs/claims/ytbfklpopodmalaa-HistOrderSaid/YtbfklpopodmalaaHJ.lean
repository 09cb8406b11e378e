/- Histories: the calls of events, and the first event of which something holds. -/
import Derived.Test.YtbfklpopodmalaaHI
import Derived.Deep.Cut
import Derived.Laws.EntriesVeiled
namespace Go.Proofs.Ytbfklpopodmalaa
open Go.RowKit
abbrev evV (e : Ev) : Value := .agg #[.int .i64 e.k, .int .i64 e.w, .int .i64 e.n, .int .i64 e.a]
abbrev clV (c : Int × Int) : Value := .agg #[.int .i64 c.1, .int .i64 c.2]
theorem callOf_any (e : Ev) (w : World) : Calls Try.prog 23 #[evV e] w fun x w' => x = .returned (.agg #[.int .i64 e.w, .int .i64 e.n]) ∧ Below w.heap.size w w' := by
  have HB0 := Lib.hid (fun o1 o2 => show Below w.heap.size w ((w.alloc o1).alloc o2) from Below.al (Below.al (Below.refl _ _) _) _)
  go_enter Try.func23, Try.ntmps23
  go_wp2
  refine bodyPost_ret (v := .agg #[.int .i64 e.w, .int .i64 e.n]) (by simp [results, Try.results23, go_sem]) rfl ⟨rfl, ?_⟩
  first | exact HB0.out _ _ | exact Below.st (HB0.out _ _) (by simp) | exact Below.st (HB0.out _ _) (Nat.le_succ _)
/-- What a function that is handed on is asked, of events. -/
def TellsE (P : Program) (w : World) (k : Nat) (cap : Array Value) (xs : List Ev) (p : Ev → Bool) : Prop :=
  ∀ w', Below w.heap.size w w' → ∀ x ∈ xs, Calls P k (#[evV x] ++ cap) w' fun e w'' => e = .returned (.bool (p x)) ∧ Below w'.heap.size w' w''
theorem findIdx_hit {α : Type} {p : α → Bool} {xs : List α} {d : α} {k : Nat} (hk : k < xs.length) (hp : ∀ j, j < k → p (xs.getD j d) = false) (h : p (xs.getD k d) = true) : xs.findIdx p = k := by
  have hg : ∀ (j : Nat) (hj : j < xs.length), xs[j] = xs.getD j d := fun j hj => by rw [List.getD_eq_getElem?_getD, List.getElem?_eq_getElem hj]; rfl
  refine (List.findIdx_eq hk).2 ⟨by rw [hg k hk]; exact h, fun j hj => by rw [hg j (by omega)]; exact hp j hj⟩
theorem findIdx_miss {α : Type} {p : α → Bool} {xs : List α} {d : α} (hp : ∀ j, j < xs.length → p (xs.getD j d) = false) : xs.findIdx p = xs.length := by
  refine List.findIdx_eq_length.2 fun x hx => ?_
  obtain ⟨j, hj, e⟩ := List.getElem_of_mem hx
  have := hp j hj
  rw [List.getD_eq_getElem?_getD, List.getElem?_eq_getElem hj, Option.getD_some, e] at this
  exact this
def fxI {α : Type} (p : α → Bool) (xs : List α) : Int := if xs.findIdx p < xs.length then (xs.findIdx p : Int) else -1
theorem fxI_hit {α : Type} {p : α → Bool} {xs : List α} {d : α} {k : Nat} (hk : k < xs.length) (hp : ∀ j, j < k → p (xs.getD j d) = false) (h : p (xs.getD k d) = true) : fxI p xs = k := by
  unfold fxI
  rw [findIdx_hit hk hp h, if_pos hk]
theorem fxI_miss {α : Type} {p : α → Bool} {xs : List α} {d : α} (hp : ∀ j, j < xs.length → p (xs.getD j d) = false) : fxI p xs = -1 := by
  unfold fxI
  rw [findIdx_miss hp, if_neg (Nat.lt_irrefl _)]
theorem fxI_fits {α : Type} (p : α → Bool) (xs : List α) : -1 ≤ fxI p xs ∧ fxI p xs < xs.length := by
  unfold fxI
  by_cases e : xs.findIdx p < xs.length
  · rw [if_pos e]; omega
  · rw [if_neg e]; omega
theorem fxI_fsI (h : List Ev) (q : Int) (c : Int × Int) : fxI (isE q c) h = fsI h q c := rfl
set_option maxRecDepth 100000 in
set_option maxHeartbeats 4000000 in

theorem idxE_any (v : Value) (xs : List Ev) (k : Nat) (cap : Array Value) (p : Ev → Bool) (w : World) (hv : KE.IsL w w.heap.size v xs) (hen : ∀ args w, (callFunc k args).run Try.prog w = .ok (.enter k args) w) (hp : TellsE Try.prog w k cap xs p) :
    Calls Try.prog 32 #[v, .func (.func k) #[] cap] w fun e w' => e = .returned (.int .i64 (fxI p xs)) ∧ Below w.heap.size w w' := by
  have HV := Lib.hid hv
  have HP := Lib.hid hp
  have hl := hv.2.2
  obtain ⟨A, c, rfl, hc⟩ := hv.shape
  clear hp hv
  have HH := Lib.hid (fun k hk h1 h2 => fxI_hit (p := p) (xs := xs) (d := ev0) (k := k) hk h1 h2)
  have HM := Lib.hid (fun h1 => fxI_miss (p := p) (xs := xs) (d := ev0) h1)
  generalize fxI p xs = z at *
  go_enter Try.func32, Try.ntmps32
  go_wp2
  go_loopw [8] (fun i wr => ∃ k : Nat, i = .int .i64 k ∧ k ≤ xs.length ∧ (∀ j, j < k → p (xs.getD j ev0) = false) ∧ Below w.heap.size w wr) (fun i _ => xs.length - (intOf i).toNat)
  case atStart => exact ⟨0, rfl, Nat.zero_le _, fun j hj => absurd hj (Nat.not_lt_zero _), Below.refl _ _⟩
  case round =>
    obtain ⟨i, rfl, hk, hkp, hbl⟩ := hrel
    have HB := Lib.hid hbl
    have HK := Lib.hid hkp
    clear hkp hbl
    by_cases hlt : i < xs.length
    · have HHi := Lib.hid (HH.out i hlt HK.out)
      obtain ⟨b, off, rfl, hb, _, hcell⟩ := ev_cells (HV.out.then HB.out) (by omega)
      obtain ⟨e0, e1, e2, e3⟩ := hcell i hlt
      have HA := Lib.hid (HP.out wr HB.out _ (getD_mem' xs i ev0 hlt))
      clear hcell
      obtain ⟨x, hx⟩ : ∃ x, xs.getD i ev0 = x := ⟨_, rfl⟩
      rw [hx] at HA e0 e1 e2 e3 HHi
      have HX := Lib.hid hx
      clear hx
      obtain ⟨q, hq⟩ : ∃ q, p x = q := ⟨_, rfl⟩
      rw [hq] at HA HHi
      have HQ := Lib.hid hq
      clear hq
      obtain ⟨xk, xw, xn, xa⟩ := x
      simp only at e0 e1 e2 e3
      go_wp2_with fail
      refine HA.out.mono ?_
      rintro e w2 ⟨rfl, hb2⟩
      have HB2 := Lib.hid (Below.call HB.out hb2)
      clear hb2 e0 e1 e2 e3
      cases q
      · go_wp2
        go_roundw
        case rel => exact ⟨i + 1, num_i (by omega), by omega, fun j hj => by
          by_cases h : j = i
          · subst h; rw [HX.out]; exact HQ.out
          · exact HK.out j (by omega), HB2.out⟩
        case measure => simp [intOf]; omega
      · have HE := Lib.hid (HHi.out rfl)
        go_wp2
        go_ret
        exact ⟨ret_i HE.out.symm, HB2.out⟩
    · obtain rfl : i = xs.length := by omega
      have HE := Lib.hid (HM.out HK.out)
      go_wp2
      go_ret
      exact ⟨ret_i HE.out.symm, HB.out⟩
set_option maxRecDepth 100000 in
set_option maxHeartbeats 4000000 in

theorem place1_any (x : Ev) (q c1 c2 : Int) (B1 B2 : Nat) (w : World) (h0 : w.cell? ⟨B1, 0, none⟩ = some (.int .i64 q)) (h1 : w.cell? ⟨B2, 0, none⟩ = some (.int .i64 c1)) (h2 : w.cell? ⟨B2, 1, none⟩ = some (.int .i64 c2)) :
    Calls Try.prog 33 #[evV x, .pointer (some ⟨B1, 0, none⟩), .pointer (some ⟨B2, 0, none⟩)] w fun e w' => e = .returned (.bool (isE q (c1, c2) x)) ∧ Below w.heap.size w w' := by
  obtain ⟨dk, dw, dn, da⟩ := x
  have hE : isE q (c1, c2) ⟨dk, dw, dn, da⟩ = (decide (dk = q) && decide (dw = c1) && decide (dn = c2)) := by
    unfold isE Ev.c
    by_cases e1 : dk = q <;> by_cases e2 : dw = c1 <;> by_cases e3 : dn = c2 <;> simp [e1, e2, e3]
  rw [hE]
  clear hE
  obtain ⟨w0, hw0⟩ : ∃ w0, w0 = w.alloc (.cells #[.int .i64 dk, .int .i64 dw, .int .i64 dn, .int .i64 da] 35) := ⟨_, rfl⟩
  have HB0 := Lib.hid (show Below w.heap.size w w0 by rw [hw0]; exact Below.al (Below.refl _ _) _)
  have g0 := keep_cell HB0.out h0
  have g1 := keep_cell HB0.out h1
  have g2 := keep_cell HB0.out h2
  have y0 : w0.cell? ⟨w.heap.size, 0, none⟩ = some (.int .i64 dk) := by rw [hw0]; simp [go_sem]
  have y1 : w0.cell? ⟨w.heap.size, 1, none⟩ = some (.int .i64 dw) := by rw [hw0]; simp [go_sem]
  have y2 : w0.cell? ⟨w.heap.size, 2, none⟩ = some (.int .i64 dn) := by rw [hw0]; simp [go_sem]
  have y3 : w0.cell? ⟨w.heap.size, 3, none⟩ = some (.int .i64 da) := by rw [hw0]; simp [go_sem]
  clear h0 h1 h2
  have HOF := Lib.hid (fun w => callOf_any ⟨dk, dw, dn, da⟩ w)
  by_cases hk : dk = q
  · subst hk
    rw [decide_eq_true rfl, Bool.true_and]
    by_cases ha : dw = c1
    · subst ha
      rw [decide_eq_true rfl, Bool.true_and]
      by_cases hn : dn = c2
      · subst hn
        rw [decide_eq_true rfl]
        go_enter Try.func33, Try.ntmps33
        go_upto_region 1 with fail
        rw [← hw0]
        clear hw0
        go_region_held3 (fun w' => w'.cell? ⟨w.heap.size, 0, none⟩ = some (.int .i64 dk) ∧ w'.cell? ⟨w.heap.size, 1, none⟩ = some (.int .i64 dw) ∧ w'.cell? ⟨w.heap.size, 2, none⟩ = some (.int .i64 dn) ∧ w'.cell? ⟨w.heap.size, 3, none⟩ = some (.int .i64 da) ∧ w'.cell? ⟨B1, 0, none⟩ = some (.int .i64 dk) ∧ w'.cell? ⟨B2, 0, none⟩ = some (.int .i64 dw) ∧ w'.cell? ⟨B2, 1, none⟩ = some (.int .i64 dn) ∧ Below w0.heap.size w0 w')
          (first | exact ⟨y0, y1, y2, y3, g0, g1, g2, (Below.refl _ _).drew⟩ | assumption | go_keep | (go_split_ands; exact ⟨keep_cell hbc (by assumption), keep_cell hbc (by assumption), keep_cell hbc (by assumption), keep_cell hbc (by assumption), keep_cell hbc (by assumption), keep_cell hbc (by assumption), keep_cell hbc (by assumption), Below.call (by assumption) hbc⟩))
          (first | (go_at_call 23; ((with_reducible refine (HOF.out _).mono ?_); rintro e w4 ⟨rfl, hbc⟩)))
        rename_i hHeld
        obtain ⟨_, _, _, _, _, _, _, hb4⟩ := hHeld
        have HB4 := Lib.hid (Below.call HB0.out hb4)
        clear hb4 hbc
        go_wp2
        go_ret
        exact ⟨rfl, HB4.out⟩
      · rw [decide_eq_false hn]
        have hq : (dn == c2) = false := by rw [beq_eq_false_iff_ne]; exact hn
        clear hn
        go_enter Try.func33, Try.ntmps33
        go_upto_region 1 with fail
        rw [← hw0]
        clear hw0
        go_region_held3 (fun w' => w'.cell? ⟨w.heap.size, 0, none⟩ = some (.int .i64 dk) ∧ w'.cell? ⟨w.heap.size, 1, none⟩ = some (.int .i64 dw) ∧ w'.cell? ⟨w.heap.size, 2, none⟩ = some (.int .i64 dn) ∧ w'.cell? ⟨w.heap.size, 3, none⟩ = some (.int .i64 da) ∧ w'.cell? ⟨B1, 0, none⟩ = some (.int .i64 dk) ∧ w'.cell? ⟨B2, 0, none⟩ = some (.int .i64 dw) ∧ w'.cell? ⟨B2, 1, none⟩ = some (.int .i64 c2) ∧ Below w0.heap.size w0 w')
          (first | exact ⟨y0, y1, y2, y3, g0, g1, g2, (Below.refl _ _).drew⟩ | assumption | go_keep | (go_split_ands; exact ⟨keep_cell hbc (by assumption), keep_cell hbc (by assumption), keep_cell hbc (by assumption), keep_cell hbc (by assumption), keep_cell hbc (by assumption), keep_cell hbc (by assumption), keep_cell hbc (by assumption), Below.call (by assumption) hbc⟩))
          (first | (go_at_call 23; ((with_reducible refine (HOF.out _).mono ?_); rintro e w4 ⟨rfl, hbc⟩)))
        rename_i hHeld
        obtain ⟨_, _, _, _, _, _, _, hb4⟩ := hHeld
        have HB4 := Lib.hid (Below.call HB0.out hb4)
        clear hb4 hbc
        go_wp2
        go_ret
        exact ⟨rfl, HB4.out⟩
    · rw [decide_eq_false ha, Bool.false_and]
      have hq : (dw == c1) = false := by rw [beq_eq_false_iff_ne]; exact ha
      clear ha
      go_enter Try.func33, Try.ntmps33
      go_upto_region 1 with fail
      rw [← hw0]
      clear hw0
      go_region_held3 (fun w' => w'.cell? ⟨w.heap.size, 0, none⟩ = some (.int .i64 dk) ∧ w'.cell? ⟨w.heap.size, 1, none⟩ = some (.int .i64 dw) ∧ w'.cell? ⟨w.heap.size, 2, none⟩ = some (.int .i64 dn) ∧ w'.cell? ⟨w.heap.size, 3, none⟩ = some (.int .i64 da) ∧ w'.cell? ⟨B1, 0, none⟩ = some (.int .i64 dk) ∧ w'.cell? ⟨B2, 0, none⟩ = some (.int .i64 c1) ∧ w'.cell? ⟨B2, 1, none⟩ = some (.int .i64 c2) ∧ Below w0.heap.size w0 w')
        (first | exact ⟨y0, y1, y2, y3, g0, g1, g2, (Below.refl _ _).drew⟩ | assumption | go_keep | (go_split_ands; exact ⟨keep_cell hbc (by assumption), keep_cell hbc (by assumption), keep_cell hbc (by assumption), keep_cell hbc (by assumption), keep_cell hbc (by assumption), keep_cell hbc (by assumption), keep_cell hbc (by assumption), Below.call (by assumption) hbc⟩))
        (first | (go_at_call 23; ((with_reducible refine (HOF.out _).mono ?_); rintro e w4 ⟨rfl, hbc⟩)))
      rename_i hHeld
      obtain ⟨_, _, _, _, _, _, _, hb4⟩ := hHeld
      have HB4 := Lib.hid (Below.call HB0.out hb4)
      clear hb4 hbc
      go_wp2
      go_ret
      exact ⟨rfl, HB4.out⟩
  · rw [decide_eq_false hk, Bool.false_and, Bool.false_and]
    have hq : (dk == q) = false := by rw [beq_eq_false_iff_ne]; exact hk
    clear hk
    go_enter Try.func33, Try.ntmps33
    go_upto_region 1 with fail
    rw [← hw0]
    clear hw0
    go_quiet (fail)
    go_wp2
    go_ret
    exact ⟨rfl, below_drewN HB0.out _⟩
end Go.Proofs.Ytbfklpopodmalaa
