/- Histories: what was called and not told: the program; calls of which something holds; sets of calls. -/
import Derived.Test.YtbfklpopodmalaaHM
namespace Go.Proofs.Ytbfklpopodmalaa
open Go.RowKit Go.Maps
theorem fieldC (a b : Int) (w : World) : (Instr.field 46 (.agg #[.int .i64 a, .int .i64 b]) 1).run Try.prog w = .ok (.int .i64 b) w := by kernel_rfl
theorem open1_any (x : Ev) (hx : KC.ok x.c) (h : List Ev) (B bm n : Nat) (w : World) (h0 : w.cell? ⟨B, 0, none⟩ = some (.map (some bm))) (m : Mc w bm n h) :
    Calls Try.prog 22 #[evV x, .pointer (some ⟨B, 0, none⟩)] w fun e w' => e = .returned (.bool (decide (x.k = 1) && decide (pl h 3 x.c = 0))) ∧ Below w.heap.size w w' := by
  obtain ⟨dk, dw, dn, da⟩ := x
  rw [show Ev.c ⟨dk, dw, dn, da⟩ = (dw, dn) from rfl] at hx ⊢
  obtain ⟨w0, hw0⟩ : ∃ w0, w0 = w.alloc (.cells #[.int .i64 dk, .int .i64 dw, .int .i64 dn, .int .i64 da] 35) := ⟨_, rfl⟩
  have HB0 := Lib.hid (show Below w.heap.size w w0 by rw [hw0]; exact Below.al (Below.refl _ _) _)
  have g0 := keep_cell HB0.out h0
  have y0 : w0.cell? ⟨w.heap.size, 0, none⟩ = some (.int .i64 dk) := by rw [hw0]; simp [go_sem]
  have y1 : w0.cell? ⟨w.heap.size, 1, none⟩ = some (.int .i64 dw) := by rw [hw0]; simp [go_sem]
  have y2 : w0.cell? ⟨w.heap.size, 2, none⟩ = some (.int .i64 dn) := by rw [hw0]; simp [go_sem]
  have y3 : w0.cell? ⟨w.heap.size, 3, none⟩ = some (.int .i64 da) := by rw [hw0]; simp [go_sem]
  have HL := Lib.hid (fun V (hb : Below w0.heap.size w0 V) => ((m.then HB0.out).then hb).look hx)
  clear h0 m
  have HOF := Lib.hid (fun w => callOf_any ⟨dk, dw, dn, da⟩ w)
  generalize pl h 1 (dw, dn) = p1 at *
  generalize pl h 3 (dw, dn) = p3 at *
  have hfl := fun w => fieldC (p1 : Nat) (p3 : Nat) w
  by_cases hk : dk = 1
  · subst hk
    rw [decide_eq_true rfl, Bool.true_and]
    go_enter Try.func22, Try.ntmps22
    go_upto_region 1 with fail
    rw [← hw0]
    clear hw0
    go_region_held3 (fun w' => w'.cell? ⟨w.heap.size, 0, none⟩ = some (.int .i64 1) ∧ w'.cell? ⟨w.heap.size, 1, none⟩ = some (.int .i64 dw) ∧ w'.cell? ⟨w.heap.size, 2, none⟩ = some (.int .i64 dn) ∧ w'.cell? ⟨w.heap.size, 3, none⟩ = some (.int .i64 da) ∧ w'.cell? ⟨B, 0, none⟩ = some (.map (some bm)) ∧ (Instr.lookup 43 (.map (some bm)) (.agg #[.int .i64 dw, .int .i64 dn]) false).run Try.prog w' = .ok (.agg #[.int .i64 (p1 : Nat), .int .i64 (p3 : Nat)]) w' ∧ Below w0.heap.size w0 w')
      (first | exact ⟨y0, y1, y2, y3, g0, HL.out _ (Below.refl _ _).drew, (Below.refl _ _).drew⟩ | assumption | go_keep | (go_split_ands; exact ⟨keep_cell hbc (by assumption), keep_cell hbc (by assumption), keep_cell hbc (by assumption), keep_cell hbc (by assumption), keep_cell hbc (by assumption), HL.out _ (Below.call (by assumption) hbc), Below.call (by assumption) hbc⟩))
      (first | (go_at_call 23; ((with_reducible refine (HOF.out _).mono ?_); rintro e w4 ⟨rfl, hbc⟩)))
    rename_i hHeld
    obtain ⟨_, _, _, _, _, _, hb4⟩ := hHeld
    have HB4 := Lib.hid (Below.call HB0.out hb4)
    clear hb4 hbc
    go_wp2
    go_ret
    exact ⟨ret_b (by by_cases e : p3 = 0 <;> simp [e]), HB4.out⟩
  · rw [decide_eq_false hk, Bool.false_and]
    have hq : (dk == 1) = false := by rw [beq_eq_false_iff_ne]; exact hk
    clear hk
    go_enter Try.func22, Try.ntmps22
    go_upto_region 1 with fail
    rw [← hw0]
    clear hw0
    go_quiet (fail)
    go_wp2
    go_ret
    exact ⟨rfl, below_drewN HB0.out _⟩
theorem opE_sel (h : List Ev) : selE (fun x => decide (x.k = 1) && decide (pl h 3 x.c = 0)) h = opE h := by
  unfold selE opE opL allE
  rw [List.filter_map, List.filter_filter]
  congr 1
  refine List.filter_congr fun x _ => ?_
  have hz := pl_fsI h 3 x.c
  have : (decide (fsI h 3 x.c < 0)) = decide (pl h 3 x.c = 0) := by rw [decide_eq_decide]; omega
  rw [Function.comp, this, Bool.and_comm]
set_option maxRecDepth 100000 in
set_option maxHeartbeats 4000000 in

theorem popen_any (v : Value) (h : List Ev) (w : World) (hv : KE.IsL w w.heap.size v h) (hl : h.length ≤ 1000) :
    Calls Try.prog 13 #[v] w fun e w' => ∃ v', e = .returned v' ∧ KC.Own w' w.heap.size v' (opE h) ∧ Below w.heap.size w w' := by
  have hmf : ∀ (fn : Fn) (first cap : Array Value) (w : World), (Instr.makeFunc fn first cap).run Try.prog w = .ok (.func fn first cap) w := fun _ _ _ _ => rfl
  have HC := Lib.hid (courses_any v h w hv hl)
  have HO := Lib.hid (fun W (hb : Below w.heap.size w W) B (h0 : W.cell? ⟨B, 0, none⟩ = some (.map (some w.heap.size))) (m : Mc W w.heap.size h.length h) => calls_any v h 22 #[.pointer (some ⟨B, 0, none⟩)] (fun x => decide (x.k = 1) && decide (pl h 3 x.c = 0)) W (hv.then hb) hl (enters_of Try.func22 (by kernel_rfl) rfl) (fun W' hb' x hx => open1_any x ⟨(hv.2.1 x hx).2.1, (hv.2.1 x hx).2.2.1⟩ h B w.heap.size h.length W' (keep_cell hb' h0) (m.then hb')))
  rw [opE_sel] at HO
  obtain ⟨A, c, rfl, hc⟩ := hv.shape
  clear hv hc
  go_enter Try.func13, Try.ntmps13
  go_wp2_with fail
  refine HC.out.mono ?_
  rintro e w1 ⟨rfl, hm, hb⟩
  obtain ⟨w2, hw2⟩ : ∃ w2, w2 = w1.alloc (.cells #[.map (some w.heap.size)] 43) := ⟨_, rfl⟩
  have hb2 : Below w1.heap.size w1 w2 := by rw [hw2]; exact Below.al (Below.refl _ _) _
  have HB2 := Lib.hid (Below.call hb hb2)
  have HC2 := Lib.hid (HO.out w2 HB2.out w1.heap.size (by rw [hw2]; simp [go_sem]) (hm.then hb2))
  clear hm hb hb2
  go_upto_region 2 with fail
  rw [← hw2]
  clear hw2
  go_wp2_with fail
  refine HC2.out.mono ?_
  rintro e w3 ⟨v', rfl, ho, hb⟩
  have HB3 := Lib.hid (Below.call HB2.out hb)
  have HO3 := Lib.hid (ho.mono HB2.out.size)
  clear hb ho
  go_wp2
  go_ret
  exact ⟨_, rfl, HO3.out, HB3.out⟩
/-- What a function that is handed on is asked, of calls. -/
def TellsC (P : Program) (w : World) (k : Nat) (cap : Array Value) (xs : List (Int × Int)) (p : Int × Int → Bool) : Prop :=
  ∀ w', Below w.heap.size w w' → ∀ x ∈ xs, Calls P k (#[clV x] ++ cap) w' fun e w'' => e = .returned (.bool (p x)) ∧ Below w'.heap.size w' w''
set_option maxRecDepth 100000 in
set_option maxHeartbeats 4000000 in
theorem idxC_any (v : Value) (xs : List (Int × Int)) (k : Nat) (cap : Array Value) (p : Int × Int → Bool) (w : World) (hv : KC.IsL w w.heap.size v xs) (hen : ∀ args w, (callFunc k args).run Try.prog w = .ok (.enter k args) w) (hp : TellsC Try.prog w k cap xs p) :
    Calls Try.prog 31 #[v, .func (.func k) #[] cap] w fun e w' => e = .returned (.int .i64 (fxI p xs)) ∧ Below w.heap.size w w' := by
  have HV := Lib.hid hv
  have HP := Lib.hid hp
  have hl := hv.2.2
  obtain ⟨A, c, rfl, hc⟩ := hv.shape
  clear hp hv
  have HH := Lib.hid (fun k hk h1 h2 => fxI_hit (p := p) (xs := xs) (d := ((0 : Int), (0 : Int))) (k := k) hk h1 h2)
  have HM := Lib.hid (fun h1 => fxI_miss (p := p) (xs := xs) (d := ((0 : Int), (0 : Int))) h1)
  generalize fxI p xs = z at *
  go_enter Try.func31, Try.ntmps31
  go_wp2
  go_loopw [8] (fun i wr => ∃ k : Nat, i = .int .i64 k ∧ k ≤ xs.length ∧ (∀ j, j < k → p (xs.getD j ((0 : Int), (0 : Int))) = false) ∧ Below w.heap.size w wr) (fun i _ => xs.length - (intOf i).toNat)
  case atStart => exact ⟨0, rfl, Nat.zero_le _, fun j hj => absurd hj (Nat.not_lt_zero _), Below.refl _ _⟩
  case round =>
    obtain ⟨i, rfl, hk, hkp, hbl⟩ := hrel
    have HB := Lib.hid hbl
    have HK := Lib.hid hkp
    clear hkp hbl
    by_cases hlt : i < xs.length
    · have HHi := Lib.hid (HH.out i hlt HK.out)
      obtain ⟨b, off, rfl, hb, _, hcell⟩ := cl_cells (HV.out.then HB.out) (by omega)
      obtain ⟨e0, e1⟩ := hcell i hlt
      have HA := Lib.hid (HP.out wr HB.out _ (getD_mem' xs i ((0 : Int), (0 : Int)) hlt))
      clear hcell
      obtain ⟨x, hx⟩ : ∃ x, xs.getD i ((0 : Int), (0 : Int)) = x := ⟨_, rfl⟩
      rw [hx] at HA e0 e1 HHi
      have HX := Lib.hid hx
      clear hx
      obtain ⟨q, hq⟩ : ∃ q, p x = q := ⟨_, rfl⟩
      rw [hq] at HA HHi
      have HQ := Lib.hid hq
      clear hq
      obtain ⟨xw, xn⟩ := x
      simp only at e0 e1
      go_wp2_with fail
      refine HA.out.mono ?_
      rintro e w2 ⟨rfl, hb2⟩
      have HB2 := Lib.hid (Below.call HB.out hb2)
      clear hb2 e0 e1
      cases q
      · go_wp2
        go_roundw
        case rel => exact ⟨i + 1, num_i (by omega), by omega, fun j hj => by
          by_cases h : j = i
          · subst h; rw [HX.out]; exact HQ.out
          · exact HK.out j (by omega), HB2.out⟩
        case measure => simp [intOf]; omega
      · have HE := Lib.hid (HHi.out rfl)
        go_wp2
        go_ret
        exact ⟨ret_i HE.out.symm, HB2.out⟩
    · obtain rfl : i = xs.length := by omega
      have HE := Lib.hid (HM.out HK.out)
      go_wp2
      go_ret
      exact ⟨ret_i HE.out.symm, HB.out⟩

theorem fxI_any {α : Type} (p : α → Bool) (xs : List α) : decide (0 ≤ fxI p xs) = xs.any p := by
  unfold fxI
  by_cases e : xs.findIdx p < xs.length
  · rw [if_pos e, decide_eq_true (by omega)]
    exact (List.any_eq_true.2 ⟨_, List.getElem_mem e, List.findIdx_getElem (w := e)⟩).symm
  · rw [if_neg e, decide_eq_false (by omega)]
    have e2 : xs.findIdx p = xs.length := Nat.le_antisymm List.findIdx_le_length (by omega)
    symm
    rw [List.any_eq_false]
    intro x hx
    rw [List.findIdx_eq_length.1 e2 x hx]
    exact Bool.false_ne_true
theorem contC_any (v : Value) (xs : List (Int × Int)) (k : Nat) (cap : Array Value) (p : Int × Int → Bool) (w : World) (hv : KC.IsL w w.heap.size v xs) (hen : ∀ args w, (callFunc k args).run Try.prog w = .ok (.enter k args) w) (hp : TellsC Try.prog w k cap xs p) :
    Calls Try.prog 26 #[v, .func (.func k) #[] cap] w fun e w' => e = .returned (.bool (xs.any p)) ∧ Below w.heap.size w w' := by
  have HF := Lib.hid (idxC_any v xs k cap p w hv hen hp)
  have hz := fxI_any p xs
  obtain ⟨A, c, rfl, hc⟩ := hv.shape
  clear hv hp
  rw [← hz]
  clear hz
  generalize fxI p xs = z at *
  go_enter Try.func26, Try.ntmps26
  go_wp2_with fail
  refine HF.out.mono ?_
  rintro e w2 ⟨rfl, hb⟩
  go_wp2
  go_ret
  exact ⟨ret_b (by simp), hb⟩
/-- A map that is a set of calls. -/
structure Rs (D : DataW Unit) (S : List (Int × Int)) : Prop where
  has : ∀ c, KC.ok c → Maps.has D (ck c) = decide (c ∈ S)
theorem Rs.put {D : DataW Unit} {S : List (Int × Int)} (r : Rs D S) (hT : IsMap D) (d : Int × Int) (hd : KC.ok d) (z : DataW Unit) : Rs (D.put (ck d) z) (S ++ [d]) := by
  refine ⟨fun c hc => ?_⟩
  by_cases e : d = c
  · subst e
    rw [Maps.has_put_same (k := ck d) hT trivial]
    exact (decide_eq_true (by simp)).symm
  · rw [Maps.has_put_other (fun a => e (ck_inj hc hd a).symm), r.has c hc, decide_eq_decide, List.mem_append]
    refine ⟨Or.inl, fun a => a.elim id fun a => ?_⟩
    rw [List.mem_singleton] at a
    exact absurd a.symm e
def Sm (w : World) (b n : Nat) (S : List (Int × Int)) : Prop := ∃ D, w.ownsMap Try.prog 31 (unitElem (H := Unit)) b n D ∧ Rs D S
theorem Sm.then {w w' : World} {b n : Nat} {S : List (Int × Int)} (m : Sm w b n S) (hb : Below w.heap.size w w') : Sm w' b n S := let ⟨D, o, r⟩ := m; ⟨D, o.kept (bgrow hb) (by simp), r⟩
theorem Sm.lt {w : World} {b n : Nat} {S : List (Int × Int)} (m : Sm w b n S) : b < w.heap.size := let ⟨_, o, _⟩ := m; o.lt
theorem zeroU (w : World) : (zeroValue 49).run Try.prog w = .ok (.agg #[]) w := by kernel_rfl
theorem Sm.look {w : World} {b n : Nat} {S : List (Int × Int)} (m : Sm w b n S) {c1 c2 : Int} (hc : KC.ok (c1, c2)) : (Instr.lookup 48 (.map (some b)) (.agg #[.int .i64 c1, .int .i64 c2]) true).run Try.prog w = .ok (.tuple #[.agg #[], .bool (decide ((c1, c2) ∈ S))]) w := by
  obtain ⟨D, o, r⟩ := m
  obtain ⟨v, ps, hr, hv⟩ := o.look_ok lawC Try.underlying48 (zeroU w) unitElem_mk (keyC hc)
  obtain ⟨rfl, _⟩ := unitElem_inv hv
  rw [hr, r.has _ hc]
theorem Sm.store {w : World} {b n : Nat} {S : List (Int × Int)} (m : Sm w b n S) (hn : n < maxLen) (c1 c2 : Int) (hd : KC.ok (c1, c2)) :
    ∃ w', (Instr.mapUpdate 48 (.map (some b)) (.agg #[.int .i64 c1, .int .i64 c2]) (.agg #[])).run Try.prog w = .ok () w' ∧ Sm w' b (n + 1) (S ++ [(c1, c2)]) ∧ w.grownBy w' (some b) := by
  obtain ⟨D, o, r⟩ := m
  obtain ⟨w', hr, ho, hg⟩ := o.update lawC Try.underlying48 hn (keyC hd) unitElem_mk
  exact ⟨w', hr, ⟨_, ho, r.put o.isMap _ hd _⟩, hg⟩
theorem Sm.setC {w : World} {b n B o : Nat} {S : List (Int × Int)} (m : Sm w b n S) (hne : B ≠ b) (v : Value) : Sm (w.setCell ⟨B, o, none⟩ v) b n S := let ⟨D, q, r⟩ := m; ⟨D, q.setCell (fun e => hne e.symm) v, r⟩
theorem Mc.grown {w w' : World} {b n : Nat} {h : List Ev} {row : Option Nat} (m : Mc w b n h) (hg : w.grownBy w' row) (hne : some b ≠ row) : Mc w' b n h := let ⟨D, o, r⟩ := m; ⟨D, o.kept hg hne, r⟩
theorem fz_grown {w w' : World} {b o : Nat} {row : Option Nat} (h : w.frozen? ⟨b, o, none⟩ = false) (hg : w.grownBy w' row) (hb : b < w.heap.size) (hne : some b ≠ row) : w'.frozen? ⟨b, o, none⟩ = false := by
  have e := hg.block b hb hne
  have : w'.frozen? ⟨b, o, none⟩ = w.frozen? ⟨b, o, none⟩ := by simp only [World.frozen?, e]
  rw [this, h]
theorem fits1_any (x : Int × Int) (hx : KC.ok x) (S : List (Int × Int)) (B bm n : Nat) (w : World) (h0 : w.cell? ⟨B, 0, none⟩ = some (.map (some bm))) (m : Sm w bm n S) :
    Calls Try.prog 27 #[clV x, .pointer (some ⟨B, 0, none⟩)] w fun e w' => e = .returned (.bool (!decide (x ∈ S))) ∧ Below w.heap.size w w' := by
  obtain ⟨dw, dn⟩ := x
  obtain ⟨w0, hw0⟩ : ∃ w0, w0 = w.alloc (.cells #[.int .i64 dw, .int .i64 dn] 31) := ⟨_, rfl⟩
  have HB0 := Lib.hid (show Below w.heap.size w w0 by rw [hw0]; exact Below.al (Below.refl _ _) _)
  have g0 := keep_cell HB0.out h0
  have y1 : w0.cell? ⟨w.heap.size, 0, none⟩ = some (.int .i64 dw) := by rw [hw0]; simp [go_sem]
  have y2 : w0.cell? ⟨w.heap.size, 1, none⟩ = some (.int .i64 dn) := by rw [hw0]; simp [go_sem]
  have hlk := (m.then HB0.out).look hx
  have HAL := Lib.hid (fun o => Below.al HB0.out o)
  clear h0 m
  generalize decide ((dw, dn) ∈ S) = q at *
  go_enter Try.func27, Try.ntmps27
  go_upto_region 1 with fail
  rw [← hw0]
  clear hw0
  go_wp2
  go_ret
  exact ⟨rfl, HAL.out _⟩
end Go.Proofs.Ytbfklpopodmalaa
