/- Histories: the place of the first event of a call, as the reference tells it. -/
import Derived.Test.YtbfklpopodmalaaHC
import Derived.Deep.RegionHeld3
namespace Go.Proofs.Ytbfklpopodmalaa
open Go.RowKit
def fsI (h : List Ev) (q : Int) (c : Int × Int) : Int := if fiE h q c < h.length then (fiE h q c : Int) else -1
theorem fiE_len (h : List Ev) (q : Int) (c : Int × Int) : fiE h q c ≤ h.length := List.findIdx_le_length
theorem getD_some {h : List Ev} {k : Nat} (hk : k < h.length) : h[k]? = some (h.getD k ev0) := by
  rw [List.getD_eq_getElem?_getD, List.getElem?_eq_getElem hk]
  rfl
theorem fiE_hit {h : List Ev} {q : Int} {c : Int × Int} {k : Nat} (hk : k < h.length) (hle : k ≤ fiE h q c) (h1 : (h.getD k ev0).k = q) (h2 : (h.getD k ev0).c = c) : fsI h q c = k := by
  have := fiE_le (getD_some hk) h1 h2
  unfold fsI
  rw [if_pos (by omega)]
  omega
theorem fiE_next {h : List Ev} {q : Int} {c : Int × Int} {k : Nat} (hk : k < h.length) (hle : k ≤ fiE h q c) (hn : ¬ ((h.getD k ev0).k = q ∧ (h.getD k ev0).c = c)) : k + 1 ≤ fiE h q c := by
  refine Nat.lt_of_le_of_ne hle fun e => hn ?_
  obtain ⟨d, hd, h1, h2⟩ := fiE_at (show fiE h q c < h.length by omega)
  rw [← e, getD_some hk] at hd
  cases hd
  exact ⟨h1, h2⟩
theorem fsI_none {h : List Ev} {q : Int} {c : Int × Int} (hle : h.length ≤ fiE h q c) : fsI h q c = -1 := if_neg (by omega)
set_option maxRecDepth 100000 in
set_option maxHeartbeats 4000000 in

theorem first_any (v : Value) (h : List Ev) (q c1 c2 : Int) (w : World) (hv : KE.IsL w w.heap.size v h) (hl : h.length ≤ 1000) :
    Calls Try.prog 24 #[v, .int .i64 q, .agg #[.int .i64 c1, .int .i64 c2]] w fun e w' => e = .returned (.int .i64 (fsI h q (c1, c2))) ∧ Below w.heap.size w w' := by
  have HV := Lib.hid hv
  obtain ⟨A, c, rfl, hc⟩ := hv.shape
  clear hv
  have HH := Lib.hid (fun k hk hle h1 h2 => fiE_hit (h := h) (q := q) (c := (c1, c2)) (k := k) hk hle h1 h2)
  have HN := Lib.hid (fun k hk hle hn => fiE_next (h := h) (q := q) (c := (c1, c2)) (k := k) hk hle hn)
  have HZ := Lib.hid (fun hle => fsI_none (h := h) (q := q) (c := (c1, c2)) hle)
  have HB0 := Lib.hid (Below.al (Below.refl w.heap.size w) (.cells #[.int .i64 c1, .int .i64 c2] 31))
  generalize fsI h q (c1, c2) = z at *
  generalize fiE h q (c1, c2) = f at *
  go_enter Try.func24, Try.ntmps24
  go_wp2
  go_loopg [7] h.length (fun gh i wr => ∃ k : Nat, k ≤ h.length ∧ gh = h.length - k ∧ i = .int .i64 k ∧ k ≤ f ∧ wr.cell? ⟨w.heap.size, 0, none⟩ = some (.int .i64 c1) ∧ wr.cell? ⟨w.heap.size, 1, none⟩ = some (.int .i64 c2) ∧ Below w.heap.size w wr)
  case atStart => exact ⟨0, Nat.zero_le _, rfl, rfl, Nat.zero_le _, by simp [go_sem], by simp [go_sem], HB0.out⟩
  case round =>
    obtain ⟨k, hk, rfl, rfl, hf, hx0, hx1, hbl⟩ := hrel
    have HF := Lib.hid hf
    have HB := Lib.hid hbl
    clear hf hbl
    by_cases hlt : k < h.length
    · have HHk := Lib.hid (HH.out k hlt HF.out)
      have HNk := Lib.hid (HN.out k hlt HF.out)
      obtain ⟨b, off, rfl, hb, _, hcell⟩ := ev_cells (HV.out.then HB.out) (by omega)
      obtain ⟨e0, e1, e2, e3⟩ := hcell k hlt
      clear hcell
      generalize h.getD k ev0 = d at *
      obtain ⟨dk, dw, dn, da⟩ := d
      simp only at e0 e1 e2 e3
      by_cases h1 : dk = q
      · subst h1
        have HOF := Lib.hid (fun w => of_any ⟨dk, dw, dn, da⟩ w)
        have fin : ∀ w' : World, True := fun _ => trivial
        by_cases h2 : dw = c1
        · by_cases h3 : dn = c2
          · subst h2; subst h3
            have HE := Lib.hid (HHk.out rfl rfl)
            go_wp2_with fail
            go_region_held3 (fun w' => w'.cell? ⟨b, off + k * 4, none⟩ = some (.int .i64 dk) ∧ w'.cell? ⟨b, off + k * 4 + 1, none⟩ = some (.int .i64 dw) ∧ w'.cell? ⟨b, off + k * 4 + 2, none⟩ = some (.int .i64 dn) ∧ w'.cell? ⟨b, off + k * 4 + 3, none⟩ = some (.int .i64 da) ∧ w'.cell? ⟨w.heap.size, 0, none⟩ = some (.int .i64 dw) ∧ w'.cell? ⟨w.heap.size, 1, none⟩ = some (.int .i64 dn) ∧ Below wr.heap.size wr w')
              (first | exact ⟨e0, e1, e2, e3, hx0, hx1, (Below.refl _ _).drew⟩ | assumption | go_keep | (go_split_ands; exact ⟨keep_cell hbc (by assumption), keep_cell hbc (by assumption), keep_cell hbc (by assumption), keep_cell hbc (by assumption), keep_cell hbc (by assumption), keep_cell hbc (by assumption), Below.call (by assumption) hbc⟩))
              (first | (go_at_call 20; ((with_reducible refine (HOF.out _).mono ?_); rintro e w4 ⟨rfl, hbc⟩)))
            rename_i hHeld
            obtain ⟨_, _, _, _, _, _, hb4⟩ := hHeld
            have HB4 := Lib.hid (Below.call HB.out hb4)
            clear hb4 hbc
            go_wp2
            go_ret
            exact ⟨ret_i HE.out.symm, HB4.out⟩
          · subst h2
            have HE := Lib.hid (HNk.out (fun e => h3 (congrArg Prod.snd e.2)))
            have hq : (dn == c2) = false := by rw [beq_eq_false_iff_ne]; exact h3
            clear h3
            go_wp2_with fail
            go_region_held3 (fun w' => w'.cell? ⟨b, off + k * 4, none⟩ = some (.int .i64 dk) ∧ w'.cell? ⟨b, off + k * 4 + 1, none⟩ = some (.int .i64 dw) ∧ w'.cell? ⟨b, off + k * 4 + 2, none⟩ = some (.int .i64 dn) ∧ w'.cell? ⟨b, off + k * 4 + 3, none⟩ = some (.int .i64 da) ∧ w'.cell? ⟨w.heap.size, 0, none⟩ = some (.int .i64 dw) ∧ w'.cell? ⟨w.heap.size, 1, none⟩ = some (.int .i64 c2) ∧ Below wr.heap.size wr w')
              (first | exact ⟨e0, e1, e2, e3, hx0, hx1, (Below.refl _ _).drew⟩ | assumption | go_keep | (go_split_ands; exact ⟨keep_cell hbc (by assumption), keep_cell hbc (by assumption), keep_cell hbc (by assumption), keep_cell hbc (by assumption), keep_cell hbc (by assumption), keep_cell hbc (by assumption), Below.call (by assumption) hbc⟩))
              (first | (go_at_call 20; ((with_reducible refine (HOF.out _).mono ?_); rintro e w4 ⟨rfl, hbc⟩)))
            rename_i hHeld
            obtain ⟨_, _, _, _, g0, g1, hb4⟩ := hHeld
            have HB4 := Lib.hid (Below.call HB.out hb4)
            clear hb4 hbc
            go_wp2
            go_roundg (h.length - (k + 1))
            case measure => omega
            case rel => exact ⟨k + 1, by omega, rfl, num_i (by omega), HE.out, g0, g1, HB4.out⟩
        · have HE := Lib.hid (HNk.out (fun e => h2 (congrArg Prod.fst e.2)))
          have hq : (dw == c1) = false := by rw [beq_eq_false_iff_ne]; exact h2
          clear h2
          go_wp2_with fail
          go_region_held3 (fun w' => w'.cell? ⟨b, off + k * 4, none⟩ = some (.int .i64 dk) ∧ w'.cell? ⟨b, off + k * 4 + 1, none⟩ = some (.int .i64 dw) ∧ w'.cell? ⟨b, off + k * 4 + 2, none⟩ = some (.int .i64 dn) ∧ w'.cell? ⟨b, off + k * 4 + 3, none⟩ = some (.int .i64 da) ∧ w'.cell? ⟨w.heap.size, 0, none⟩ = some (.int .i64 c1) ∧ w'.cell? ⟨w.heap.size, 1, none⟩ = some (.int .i64 c2) ∧ Below wr.heap.size wr w')
            (first | exact ⟨e0, e1, e2, e3, hx0, hx1, (Below.refl _ _).drew⟩ | assumption | go_keep | (go_split_ands; exact ⟨keep_cell hbc (by assumption), keep_cell hbc (by assumption), keep_cell hbc (by assumption), keep_cell hbc (by assumption), keep_cell hbc (by assumption), keep_cell hbc (by assumption), Below.call (by assumption) hbc⟩))
            (first | (go_at_call 20; ((with_reducible refine (HOF.out _).mono ?_); rintro e w4 ⟨rfl, hbc⟩)))
          rename_i hHeld
          obtain ⟨_, _, _, _, g0, g1, hb4⟩ := hHeld
          have HB4 := Lib.hid (Below.call HB.out hb4)
          clear hb4 hbc
          go_wp2
          go_roundg (h.length - (k + 1))
          case measure => omega
          case rel => exact ⟨k + 1, by omega, rfl, num_i (by omega), HE.out, g0, g1, HB4.out⟩
      · have HE := Lib.hid (HNk.out (fun e => h1 e.1))
        go_wp2_with fail
        go_quiet (fail)
        go_wp2
        go_roundg (h.length - (k + 1))
        case measure => omega
        case rel => exact ⟨k + 1, by omega, rfl, num_i (by omega), HE.out, hx0, hx1, below_drewN HB.out _⟩
    · obtain rfl : k = h.length := by omega
      have HE := Lib.hid (HZ.out HF.out)
      go_wp2
      go_ret
      exact ⟨ret_i HE.out.symm, HB.out⟩
end Go.Proofs.Ytbfklpopodmalaa
