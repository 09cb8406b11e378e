/- Histories: places of calls, who is ahead of whom, the calls that were done and told: the program. -/
import Derived.Test.YtbfklpopodmalaaHJ
namespace Go.Proofs.Ytbfklpopodmalaa
open Go.RowKit
theorem place_any (v : Value) (h : List Ev) (q c1 c2 : Int) (w : World) (hv : KE.IsL w w.heap.size v h) :
    Calls Try.prog 28 #[v, .int .i64 q, .agg #[.int .i64 c1, .int .i64 c2]] w fun e w' => e = .returned (.int .i64 (pl h q (c1, c2) : Nat)) ∧ Below w.heap.size w w' := by
  have hmf : ∀ (fn : Fn) (first cap : Array Value) (w : World), (Instr.makeFunc fn first cap).run Try.prog w = .ok (.func fn first cap) w := fun _ _ _ _ => rfl
  have hl := hv.2.2
  obtain ⟨w0, hw0⟩ : ∃ w0, w0 = (w.alloc (.cells #[.int .i64 q] 3)).alloc (.cells #[.int .i64 c1, .int .i64 c2] 31) := ⟨_, rfl⟩
  have HB0 := Lib.hid (show Below w.heap.size w w0 by rw [hw0]; exact Below.al (Below.al (Below.refl _ _) _) _)
  have y0 : w0.cell? ⟨w.heap.size, 0, none⟩ = some (.int .i64 q) := by rw [hw0]; simp [go_sem]
  have y1 : w0.cell? ⟨w.heap.size + 1, 0, none⟩ = some (.int .i64 c1) := by rw [hw0]; simp [go_sem]
  have y2 : w0.cell? ⟨w.heap.size + 1, 1, none⟩ = some (.int .i64 c2) := by rw [hw0]; simp [go_sem]
  have HI := Lib.hid (idxE_any v h 33 #[.pointer (some ⟨w.heap.size, 0, none⟩), .pointer (some ⟨w.heap.size + 1, 0, none⟩)] (isE q (c1, c2)) w0 (hv.then HB0.out) (enters_of Try.func33 (by kernel_rfl) rfl) (fun W hb x _ => place1_any x q c1 c2 _ _ W (keep_cell hb y0) (keep_cell hb y1) (keep_cell hb y2)))
  have hz := pl_fsI h q (c1, c2)
  rw [← fxI_fsI] at hz
  obtain ⟨b1, b2⟩ := fxI_fits (isE q (c1, c2)) h
  obtain ⟨A, c, rfl, hc⟩ := hv.shape
  clear hv y0 y1 y2 hc
  generalize fxI (isE q (c1, c2)) h = z at *
  generalize pl h q (c1, c2) = p at *
  have HZ := Lib.hid hz
  clear hz
  go_enter Try.func28, Try.ntmps28
  go_upto_region 1 with fail
  rw [← hw0]
  clear hw0
  go_wp2_with fail
  refine HI.out.mono ?_
  rintro e w1 ⟨rfl, hb⟩
  have HB1 := Lib.hid (Below.call HB0.out hb)
  clear hb
  go_wp2
  go_ret
  exact ⟨ret_i (by have := HZ.out; omega), HB1.out⟩
theorem ahead_any (a b c d : Int) (w : World) :
    Calls Try.prog 25 #[.agg #[.int .i64 a, .int .i64 b], .agg #[.int .i64 c, .int .i64 d]] w fun e w' => e = .returned (.bool (decide (b ≠ 0) && decide (b < c))) ∧ Below w.heap.size w w' := by
  have HB0 := Lib.hid (fun o1 o2 => show Below w.heap.size w ((w.alloc o1).alloc o2) from Below.al (Below.al (Below.refl _ _) _) _)
  by_cases h : b = 0
  · subst h
    rw [show decide ((0 : Int) ≠ 0) = false from rfl, Bool.false_and]
    go_enter Try.func25, Try.ntmps25
    go_wp2
    go_ret
    exact ⟨rfl, HB0.out _ _⟩
  · rw [decide_eq_true h, Bool.true_and]
    have hq : (b != 0) = true := by simpa using h
    clear h
    by_cases h2 : b < c
    · rw [decide_eq_true h2]
      have h3 : decide (b < c) = true := decide_eq_true h2
      go_enter Try.func25, Try.ntmps25
      go_wp2
      go_ret
      exact ⟨ret_b (by simp), HB0.out _ _⟩
    · rw [decide_eq_false h2]
      have h3 : decide (b < c) = false := decide_eq_false h2
      go_enter Try.func25, Try.ntmps25
      go_wp2
      go_ret
      exact ⟨ret_b (by simp), HB0.out _ _⟩
def befB (h : List Ev) (a b : Int × Int) : Bool := decide ((pl h 3 a : Int) ≠ 0) && decide ((pl h 3 a : Int) < (pl h 1 b : Nat))
theorem befB_iff (h : List Ev) (a b : Int × Int) : befB h a b = true ↔ befE h a b := by
  rw [befE_pl]
  unfold befB
  rw [Bool.and_eq_true, decide_eq_true_eq, decide_eq_true_eq]
  omega
set_option maxRecDepth 100000 in
set_option maxHeartbeats 4000000 in

theorem before_any (v : Value) (h : List Ev) (a1 a2 b1 b2 : Int) (w : World) (hv : KE.IsL w w.heap.size v h) :
    Calls Try.prog 16 #[v, .agg #[.int .i64 a1, .int .i64 a2], .agg #[.int .i64 b1, .int .i64 b2]] w fun e w' => e = .returned (.bool (befB h (a1, a2) (b1, b2))) ∧ Below w.heap.size w w' := by
  obtain ⟨w0, hw0⟩ : ∃ w0, w0 = (w.alloc (.cells #[.int .i64 a1, .int .i64 a2] 31)).alloc (.cells #[.int .i64 b1, .int .i64 b2] 31) := ⟨_, rfl⟩
  have HB0 := Lib.hid (show Below w.heap.size w w0 by rw [hw0]; exact Below.al (Below.al (Below.refl _ _) _) _)
  have y0 : w0.cell? ⟨w.heap.size, 0, none⟩ = some (.int .i64 a1) := by rw [hw0]; simp [go_sem]
  have y1 : w0.cell? ⟨w.heap.size, 1, none⟩ = some (.int .i64 a2) := by rw [hw0]; simp [go_sem]
  have y2 : w0.cell? ⟨w.heap.size + 1, 0, none⟩ = some (.int .i64 b1) := by rw [hw0]; simp [go_sem]
  have y3 : w0.cell? ⟨w.heap.size + 1, 1, none⟩ = some (.int .i64 b2) := by rw [hw0]; simp [go_sem]
  have HP := Lib.hid (fun V (hb : Below w0.heap.size w0 V) q c1 c2 => place_any v h q c1 c2 V ((hv.then HB0.out).then hb))
  have HE : befB h (a1, a2) (b1, b2) = (decide ((pl h 3 (a1, a2) : Int) ≠ 0) && decide ((pl h 3 (a1, a2) : Int) < (pl h 1 (b1, b2) : Nat))) := rfl
  rw [HE]
  clear HE
  obtain ⟨A, c, rfl, hc⟩ := hv.shape
  have H1 := Lib.hid (fun V hb => HP.out V hb 3 a1 a2)
  have H2 := Lib.hid (fun V hb => HP.out V hb 1 b1 b2)
  have HA := Lib.hid (fun x y w => ahead_any 0 x y 0 w)
  clear HP hv hc
  generalize pl h 3 (a1, a2) = p at *
  generalize pl h 1 (b1, b2) = r at *
  go_enter Try.func16, Try.ntmps16
  go_upto_region 1 with fail
  rw [← hw0]
  clear hw0
  go_region_held3 (fun w' => w'.cell? ⟨w.heap.size, 0, none⟩ = some (.int .i64 a1) ∧ w'.cell? ⟨w.heap.size, 1, none⟩ = some (.int .i64 a2) ∧ w'.cell? ⟨w.heap.size + 1, 0, none⟩ = some (.int .i64 b1) ∧ w'.cell? ⟨w.heap.size + 1, 1, none⟩ = some (.int .i64 b2) ∧ Below w0.heap.size w0 w')
    (first | exact ⟨y0, y1, y2, y3, (Below.refl _ _).drew⟩ | assumption | go_keep | (go_split_ands; exact ⟨keep_cell hbc (by assumption), keep_cell hbc (by assumption), keep_cell hbc (by assumption), keep_cell hbc (by assumption), Below.call (by assumption) hbc⟩))
    (first
      | (go_at_call 28; first | ((with_reducible refine (H1.out _ (by go_split_ands; assumption)).mono ?_); rintro e w4 ⟨rfl, hbc⟩) | ((with_reducible refine (H2.out _ (by go_split_ands; assumption)).mono ?_); rintro e w4 ⟨rfl, hbc⟩))
      | (go_at_call 25; ((with_reducible refine (HA.out _ _ _).mono ?_); rintro e w4 ⟨rfl, hbc⟩)))
  rename_i hHeld
  obtain ⟨_, _, _, _, hb4⟩ := hHeld
  have HB4 := Lib.hid (Below.call HB0.out hb4)
  clear hb4 hbc
  go_wp2
  go_ret
  exact ⟨ret_b (by simp), HB4.out⟩
theorem isOf_any (q : Int) (w : World) : Calls Try.prog 19 #[.int .i64 q] w fun e w' => e = .returned (.func (.func 30) #[] #[.pointer (some ⟨w.heap.size, 0, none⟩)]) ∧ w'.cell? ⟨w.heap.size, 0, none⟩ = some (.int .i64 q) ∧ Below w.heap.size w w' := by
  have hmf : ∀ (fn : Fn) (first cap : Array Value) (w : World), (Instr.makeFunc fn first cap).run Try.prog w = .ok (.func fn first cap) w := fun _ _ _ _ => rfl
  have HB0 := Lib.hid (fun o => show Below w.heap.size w (w.alloc o) from Below.al (Below.refl _ _) _)
  go_enter Try.func19, Try.ntmps19
  go_wp2
  go_ret
  exact ⟨rfl, by simp [go_sem], HB0.out _⟩
theorem isOf1_any (x : Ev) (q : Int) (B : Nat) (w : World) (h0 : w.cell? ⟨B, 0, none⟩ = some (.int .i64 q)) : Calls Try.prog 30 #[evV x, .pointer (some ⟨B, 0, none⟩)] w fun e w' => e = .returned (.bool (decide (x.k = q))) ∧ Below w.heap.size w w' := by
  obtain ⟨dk, dw, dn, da⟩ := x
  obtain ⟨w0, hw0⟩ : ∃ w0, w0 = w.alloc (.cells #[.int .i64 dk, .int .i64 dw, .int .i64 dn, .int .i64 da] 35) := ⟨_, rfl⟩
  have HB0 := Lib.hid (show Below w.heap.size w w0 by rw [hw0]; exact Below.al (Below.refl _ _) _)
  have g0 := keep_cell HB0.out h0
  have y0 : w0.cell? ⟨w.heap.size, 0, none⟩ = some (.int .i64 dk) := by rw [hw0]; simp [go_sem]
  clear h0
  go_enter Try.func30, Try.ntmps30
  go_upto_region 1 with fail
  rw [← hw0]
  clear hw0
  go_wp2
  go_ret
  exact ⟨ret_b (by by_cases e : dk = q <;> simp [e]), HB0.out⟩
set_option maxRecDepth 100000 in
set_option maxHeartbeats 4000000 in

theorem calls_any (v : Value) (h : List Ev) (k : Nat) (cap : Array Value) (p : Ev → Bool) (w : World) (hv : KE.IsL w w.heap.size v h) (hl : h.length ≤ 1000) (hen : ∀ args w, (callFunc k args).run Try.prog w = .ok (.enter k args) w) (hp : TellsE Try.prog w k cap h p) :
    Calls Try.prog 18 #[v, .func (.func k) #[] cap] w fun e w' => ∃ v', e = .returned v' ∧ KC.Own w' w.heap.size v' (selE p h) ∧ Below w.heap.size w w' := by
  have HV := Lib.hid hv
  have HP := Lib.hid hp
  obtain ⟨A, c, rfl, hc⟩ := hv.shape
  clear hv hp
  have HS := Lib.hid (fun k hk => selE_snoc p h k hk)
  have HL := Lib.hid (fun k => selE_len p h k)
  have HE := Lib.hid (show selE p (h.take h.length) = selE p h by rw [List.take_length])
  go_enter Try.func18, Try.ntmps18
  go_wp2
  go_loopg [5, 10] h.length (fun gh u i wr => ∃ k : Nat, k ≤ h.length ∧ gh = h.length - k ∧ i = .int .i64 k ∧ KC.Own wr w.heap.size u (selE p (h.take k)) ∧ Below w.heap.size w wr)
  case atStart => exact ⟨0, Nat.zero_le _, rfl, rfl, Lk.Own.nil _ _, Below.refl _ _⟩
  case round =>
    obtain ⟨k, hk, rfl, rfl, hown, hbl⟩ := hrel
    have HO := Lib.hid hown
    have HB := Lib.hid hbl
    clear hown hbl
    by_cases hlt : k < h.length
    · have HSk := Lib.hid (HS.out k hlt)
      have HLk := Lib.hid (HL.out k)
      obtain ⟨b, off, rfl, hb, _, hcell⟩ := ev_cells (HV.out.then HB.out) (by omega)
      obtain ⟨e0, e1, e2, e3⟩ := hcell k hlt
      have HFO := Lib.hid ((HV.out.2.1 _ (getD_mem' h k ev0 hlt)))
      have HA := Lib.hid (fun W hb => HP.out W hb _ (getD_mem' h k ev0 hlt))
      clear hcell
      obtain ⟨d, hd⟩ : ∃ d, h.getD k ev0 = d := ⟨_, rfl⟩
      rw [hd] at HSk HA HFO e0 e1 e2 e3
      clear hd
      obtain ⟨q, hq⟩ : ∃ q, p d = q := ⟨_, rfl⟩
      rw [hq] at HA HSk
      clear hq
      generalize selE p (h.take k) = lst at *
      obtain ⟨dk, dw, dn, da⟩ := d
      simp only at e0 e1 e2 e3
      obtain ⟨wo, hwo⟩ : ∃ wo, wo = wr.alloc (.cells #[.int .i64 dk, .int .i64 dw, .int .i64 dn, .int .i64 da] 35) := ⟨_, rfl⟩
      have HBo := Lib.hid (show Below w.heap.size w wo by rw [hwo]; exact Below.al HB.out _)
      have HOo := Lib.hid (show KC.Own wo w.heap.size _ lst by rw [hwo]; exact HO.out.alloc _)
      have y0 : wo.cell? ⟨wr.heap.size, 0, none⟩ = some (.int .i64 dk) := by rw [hwo]; simp [go_sem]
      have y1 : wo.cell? ⟨wr.heap.size, 1, none⟩ = some (.int .i64 dw) := by rw [hwo]; simp [go_sem]
      have y2 : wo.cell? ⟨wr.heap.size, 2, none⟩ = some (.int .i64 dn) := by rw [hwo]; simp [go_sem]
      have y3 : wo.cell? ⟨wr.heap.size, 3, none⟩ = some (.int .i64 da) := by rw [hwo]; simp [go_sem]
      go_upto_region 5 with fail
      rw [← hwo]
      clear hwo e0 e1 e2 e3
      go_wp2_with fail
      refine (HA.out wo HBo.out).mono ?_
      rintro e w2 ⟨rfl, hb2⟩
      have HB2 := Lib.hid (Below.call HBo.out hb2)
      have HO2 := Lib.hid (HOo.out.below hb2)
      have y0 := keep_cell hb2 y0
      have y1 := keep_cell hb2 y1
      have y2 := keep_cell hb2 y2
      have y3 := keep_cell hb2 y3
      clear hb2
      cases q
      · rw [if_neg Bool.false_ne_true, List.append_nil] at HSk
        go_wp2
        go_roundg (h.length - (k + 1))
        case measure => omega
        case rel => exact ⟨k + 1, by omega, rfl, num_i (by omega), by rw [HSk.out]; exact HO2.out, HB2.out⟩
      · rw [if_pos rfl] at HSk
        have HOK := Lib.hid (show KC.ok (dw, dn) from ⟨HFO.out.2.1, HFO.out.2.2.1⟩)
        have HOF := Lib.hid (fun w => callOf_any ⟨dk, dw, dn, da⟩ w)
        go_wp2_with fail
        refine (HOF.out _).mono ?_
        rintro e w3 ⟨rfl, hb3⟩
        have HB3 := Lib.hid (Below.call HB2.out hb3)
        have HO3 := Lib.hid (HO2.out.below hb3)
        clear hb3 y0 y1 y2 y3
        go_wp2_with (at_builtin; refine Lk.wpList_app (K := KC) _ rfl _ _ rfl rfl w.heap.size (w3.heap.size + 1) _ _ lst [(dw, dn)] rfl rfl (HO3.out.alloc _) (Lk.IsL.lit (K := KC) _ (dw, dn) _ HOK.out rfl w3.heap.size rfl) ?c1 ?c2 ?_)
        case c1 => have := HLk.out; simp; omega
        case c2 => have := HB3.out.size; simp; omega
        intro v1 w4 hown hgrow _
        have HB4 := Lib.hid (Lk.Own.grow' (HO3.out.alloc _) (Below.al HB3.out _) (by have := HB3.out.size; simp; omega) hgrow)
        have HO4 := Lib.hid hown
        clear hown hgrow
        go_wp2
        go_roundg (h.length - (k + 1))
        case measure => omega
        case rel => exact ⟨k + 1, by omega, rfl, num_i (by omega), by rw [HSk.out]; exact HO4.out, HB4.out⟩
    · obtain rfl : k = h.length := by omega
      go_wp2
      go_ret
      exact ⟨_, rfl, by rw [← HE.out]; exact HO.out, HB.out⟩

theorem done_any (v : Value) (h : List Ev) (w : World) (hv : KE.IsL w w.heap.size v h) (hl : h.length ≤ 1000) :
    Calls Try.prog 10 #[v] w fun e w' => ∃ v', e = .returned v' ∧ KC.Own w' w.heap.size v' (allE h 2) ∧ Below w.heap.size w w' := by
  have HO := Lib.hid (fun W (hb : Below w.heap.size w W) B (h0 : W.cell? ⟨B, 0, none⟩ = some (.int .i64 2)) => calls_any v h 30 #[.pointer (some ⟨B, 0, none⟩)] (fun e => decide (e.k = 2)) W (hv.then hb) hl (enters_of Try.func30 (by kernel_rfl) rfl) (fun W' hb' x _ => isOf1_any x 2 B W' (keep_cell hb' h0)))
  obtain ⟨A, c, rfl, hc⟩ := hv.shape
  clear hv hc
  go_enter Try.func10, Try.ntmps10
  go_wp2_with fail
  refine (isOf_any 2 w).mono ?_
  rintro e w1 ⟨rfl, h0, hb⟩
  have HB1 := Lib.hid hb
  have HC := Lib.hid (HO.out w1 hb _ h0)
  clear hb h0
  go_wp2_with fail
  refine HC.out.mono ?_
  rintro e w2 ⟨v', rfl, ho, hb⟩
  have HB2 := Lib.hid (Below.call HB1.out hb)
  have HO2 := Lib.hid (ho.mono HB1.out.size)
  clear hb ho
  go_wp2
  go_ret
  exact ⟨_, rfl, HO2.out, HB2.out⟩

theorem told_any (v : Value) (h : List Ev) (w : World) (hv : KE.IsL w w.heap.size v h) (hl : h.length ≤ 1000) :
    Calls Try.prog 12 #[v] w fun e w' => ∃ v', e = .returned v' ∧ KC.Own w' w.heap.size v' (allE h 3) ∧ Below w.heap.size w w' := by
  have HO := Lib.hid (fun W (hb : Below w.heap.size w W) B (h0 : W.cell? ⟨B, 0, none⟩ = some (.int .i64 3)) => calls_any v h 30 #[.pointer (some ⟨B, 0, none⟩)] (fun e => decide (e.k = 3)) W (hv.then hb) hl (enters_of Try.func30 (by kernel_rfl) rfl) (fun W' hb' x _ => isOf1_any x 3 B W' (keep_cell hb' h0)))
  obtain ⟨A, c, rfl, hc⟩ := hv.shape
  clear hv hc
  go_enter Try.func12, Try.ntmps12
  go_wp2_with fail
  refine (isOf_any 3 w).mono ?_
  rintro e w1 ⟨rfl, h0, hb⟩
  have HB1 := Lib.hid hb
  have HC := Lib.hid (HO.out w1 hb _ h0)
  clear hb h0
  go_wp2_with fail
  refine HC.out.mono ?_
  rintro e w2 ⟨v', rfl, ho, hb⟩
  have HB2 := Lib.hid (Below.call HB1.out hb)
  have HO2 := Lib.hid (ho.mono HB1.out.size)
  clear hb ho
  go_wp2
  go_ret
  exact ⟨_, rfl, HO2.out, HB2.out⟩
end Go.Proofs.Ytbfklpopodmalaa
