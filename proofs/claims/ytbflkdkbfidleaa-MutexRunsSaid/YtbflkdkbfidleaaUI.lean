/- Mutexes: whether waits are ordered, as the reference tells it. -/
import Derived.Test.YtbflkdkbfidleaaUF
namespace Go.Proofs.Ytbflkdkbfidleaa
open Go.RowKit
theorem drop_hit {t : List Int} {m j : Nat} {n : Int} (h1 : m ≤ j) (h2 : j < t.length) (h : t.getD j 0 = n) : (t.drop m).any (fun x => decide (x = n)) = true := by
  refine List.any_eq_true.2 ⟨n, ?_, decide_eq_true rfl⟩
  have e : (t.drop m)[j - m]? = some n := by
    rw [List.getElem?_drop, show m + (j - m) = j by omega, ← h, List.getD_eq_getElem?_getD, List.getElem?_eq_getElem h2, Option.getD_some]
  exact List.mem_of_getElem? e
theorem drop_none {t : List Int} {m : Nat} {n : Int} (h : ∀ j, m ≤ j → j < t.length → t.getD j 0 ≠ n) : (t.drop m).any (fun x => decide (x = n)) = false := by
  rw [List.any_eq_false]
  intro x hx
  obtain ⟨i, hi, e⟩ := List.getElem_of_mem hx
  rw [List.length_drop] at hi
  rw [List.getElem_drop] at e
  have := h (m + i) (by omega) (by omega)
  rw [List.getD_eq_getElem?_getD, List.getElem?_eq_getElem (by omega), Option.getD_some, e] at this
  simpa using this
set_option maxRecDepth 100000 in
set_option maxHeartbeats 4000000 in
theorem rordered_any (v u : Value) (t ws : List Int) (w : World) (hv : KI.IsL w w.heap.size v t) (hu : KI.IsL w w.heap.size u ws) :
    Calls Try.prog 24 #[v, u] w fun e w' => e = .returned (.bool (ordV t ws)) ∧ Below w.heap.size w w' := by
  have HV := Lib.hid hv
  have HU := Lib.hid hu
  have HR := Lib.hid (rright_o v t w hv)
  obtain ⟨A, c, rfl, hc⟩ := hv.shape
  obtain ⟨A2, c2, rfl, hc2⟩ := hu.shape
  have hl := hv.2.2
  have hl2 := hu.2.2
  have hS : ordV t ws = ((rgO t && decide (ws.length ≤ 8)) && !(List.range ws.length).any (ordB t ws)) := rfl
  have HAH := Lib.hid (fun k hk h => any_range_hit (p := ordB t ws) (n := ws.length) k hk h)
  have HAN := Lib.hid (fun h => any_range (p := ordB t ws) (n := ws.length) h)
  rw [hS]
  clear hS hv hu
  generalize (List.range ws.length).any (ordB t ws) = z at *
  generalize rgO t = q at *
  cases q
  · simp only [Bool.false_and]
    go_enter Try.func24, Try.ntmps24
    go_wp2_with fail
    refine HR.out.mono ?_
    rintro e w1 ⟨rfl, hb⟩
    go_wp2
    go_ret
    exact ⟨rfl, hb⟩
  by_cases h8 : (8 : Int) < ws.length
  · rw [show decide (ws.length ≤ 8) = false from decide_eq_false (by omega)]
    simp only [Bool.and_false, Bool.false_and]
    go_enter Try.func24, Try.ntmps24
    go_wp2_with fail
    refine HR.out.mono ?_
    rintro e w1 ⟨rfl, hb⟩
    go_wp2
    go_ret
    exact ⟨rfl, hb⟩
  rw [show decide (ws.length ≤ 8) = true from decide_eq_true (by omega)]
  simp only [Bool.and_self, Bool.true_and]
  go_enter Try.func24, Try.ntmps24
  go_wp2_with fail
  refine HR.out.mono ?_
  rintro e w1 ⟨rfl, hb⟩
  have HB1 := Lib.hid hb
  clear hb HR
  go_wp2
  rw [show decide ((8 : Int) < ws.length) = false from decide_eq_false (by omega)]
  go_loopg [5] ws.length (fun gh i wr => ∃ k : Nat, k ≤ ws.length ∧ gh = ws.length - k ∧ i = .int .i64 k ∧ (∀ j, j < k → ordB t ws j = false) ∧ Below w.heap.size w wr)
  case atStart => exact ⟨0, Nat.zero_le _, rfl, rfl, fun j hj => absurd hj (Nat.not_lt_zero _), HB1.out⟩
  case round =>
    obtain ⟨k, hk, rfl, rfl, hj, hbl⟩ := hrel
    have HJ := Lib.hid hj
    have HB := Lib.hid hbl
    clear hj hbl
    by_cases hlt : k < ws.length
    · obtain ⟨b, off, cap', hs, _, hb, _, hcell, _⟩ := KI.cells (HU.out.then HB.out) (by omega)
      simp only [Value.slice.injEq] at hs
      obtain ⟨rfl, _, rfl⟩ := hs
      have e1 := hcell k hlt
      have HX := Lib.hid (show ordB t ws k = (hasB t.length (ws.getD k 0) && (t.drop (ws.getD k 0).toNat).any (fun x => decide (x = (k : Int) + 1))) from rfl)
      have HHK := Lib.hid (HAH.out k hlt)
      clear hcell
      generalize ws.getD k 0 = x at *
      have HHI := Lib.hid (hasB_iff t.length x)
      by_cases hx0 : x < 0
      · go_wp2
        go_roundg (ws.length - (k + 1))
        case measure => omega
        case rel => exact ⟨k + 1, by omega, rfl, num_i (by omega), fun j hj => by
          by_cases e : j = k
          · subst e; rw [HX.out, show hasB t.length x = false by rw [← Bool.not_eq_true]; intro h; have := HHI.out.1 h; omega]; rfl
          · exact HJ.out j (by omega), HB.out⟩
      by_cases hx1 : (t.length : Int) ≤ x
      · go_wp2
        go_roundg (ws.length - (k + 1))
        case measure => omega
        case rel => exact ⟨k + 1, by omega, rfl, num_i (by omega), fun j hj => by
          by_cases e : j = k
          · subst e; rw [HX.out, show hasB t.length x = false by rw [← Bool.not_eq_true]; intro h; have := HHI.out.1 h; omega]; rfl
          · exact HJ.out j (by omega), HB.out⟩
      obtain ⟨m, rfl⟩ := Int.eq_ofNat_of_zero_le (show 0 ≤ x by omega)
      rw [HHI.out.2 (by omega), Bool.true_and, show ((m : Int)).toNat = m from rfl] at HX
      have hm : m < t.length := by omega
      clear hx0 hx1
      have START := True.intro
      go_wp2
      obtain ⟨wo, hwo⟩ : ∃ wo, wo = wr := ⟨_, rfl⟩
      subst hwo
      go_loopg [6] (t.length - m) (fun gh i wr => wr = wo ∧ ∃ j : Nat, m ≤ j ∧ j ≤ t.length ∧ gh = t.length - j ∧ i = .int .i64 j ∧ (∀ a, m ≤ a → a < j → t.getD a 0 ≠ (k : Int) + 1))
      case atStart => exact ⟨rfl, m, Nat.le_refl _, by omega, rfl, rfl, fun a h1 h2 => by omega⟩
      case round =>
        obtain ⟨rfl, j, hj1, hj2, rfl, rfl, hja⟩ := hrel
        have HJA := Lib.hid hja
        clear hja
        by_cases hjl : j < t.length
        · obtain ⟨b3, off3, cap3, hs, _, hb3, _, hcell, _⟩ := KI.cells (HV.out.then HB.out) (by omega)
          simp only [Value.slice.injEq] at hs
          obtain ⟨rfl, _, rfl⟩ := hs
          have e2 := hcell j hjl
          have HDH := Lib.hid (fun h => drop_hit (t := t) (n := (k : Int) + 1) hj1 hjl h)
          clear hcell
          obtain ⟨y, hy⟩ : ∃ y, t.getD j 0 = y := ⟨_, rfl⟩
          rw [hy] at e2 HDH
          have HY := Lib.hid hy
          clear hy
          by_cases hyk : y = (k : Int) + 1
          · have HZ := Lib.hid (HHK.out (by rw [HX.out]; exact HDH.out hyk))
            subst hyk
            go_wp2
            go_ret
            exact ⟨ret_b (by rw [HZ.out]; rfl), HB.out⟩
          · have hbq : (y == (k : Int) + 1) = false := by rw [beq_eq_false_iff_ne]; exact hyk
            have HN := Lib.hid hyk
            clear hyk
            go_wp2
            go_roundg (t.length - (j + 1))
            case measure => omega
            case rel => exact ⟨rfl, j + 1, by omega, by omega, rfl, num_i (by omega), fun a h1 h2 => by
              by_cases e : a = j
              · subst e; rw [HY.out]; exact HN.out
              · exact HJA.out a h1 (by omega)⟩
        · obtain rfl : j = t.length := by omega
          go_wp2
          go_roundg (ws.length - (k + 1))
          case measure => omega
          case rel => exact ⟨k + 1, by omega, rfl, num_i (by omega), fun j hj => by
            by_cases e : j = k
            · subst e; rw [HX.out]; exact drop_none fun a h1 h2 => HJA.out a h1 h2
            · exact HJ.out j (by omega), HB.out⟩
    · obtain rfl : k = ws.length := by omega
      go_wp2
      go_ret
      exact ⟨ret_b (by rw [HAN.out HJ.out]; rfl), HB.out⟩
end Go.Proofs.Ytbflkdkbfidleaa
