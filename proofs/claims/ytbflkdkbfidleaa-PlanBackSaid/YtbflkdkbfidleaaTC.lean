/- What is in one of two sets: the program and the reference. -/
import Derived.Test.YtbflkdkbfidleaaTB
import Derived.Laws.Rows
import Derived.Deep.QuietTactic
import Derived.BigQuiet
namespace Go.Proofs.Ytbflkdkbfidleaa.Two
open Go.RowKit

/-- A whole number of 128 bits in two words, the lower one first. -/
def W2 (x : Int) : Value := .agg #[.int .u64 (x % 18446744073709551616), .int .u64 (x / 18446744073709551616 % 18446744073709551616)]

theorem ret_w2 {a b c d : Int} (h : a = c) (k : b = d) : Ending.returned (.agg #[.int .u64 a, .int .u64 b]) = .returned (.agg #[.int .u64 c, .int .u64 d]) := by rw [h, k]
theorem carry (x y : Int) : ((x % 18446744073709551616 + y % 18446744073709551616) % 18446744073709551616 = (x + y) % 18446744073709551616) ∧
    ((x % 18446744073709551616 + y % 18446744073709551616) % 18446744073709551616 < x % 18446744073709551616 →
      ((x / 18446744073709551616 % 18446744073709551616 + y / 18446744073709551616 % 18446744073709551616) % 18446744073709551616 + 1) % 18446744073709551616 = (x + y) / 18446744073709551616 % 18446744073709551616) ∧
    (¬ (x % 18446744073709551616 + y % 18446744073709551616) % 18446744073709551616 < x % 18446744073709551616 →
      (x / 18446744073709551616 % 18446744073709551616 + y / 18446744073709551616 % 18446744073709551616) % 18446744073709551616 = (x + y) / 18446744073709551616 % 18446744073709551616) := by
  refine ⟨?_, ?_, ?_⟩ <;> omega
theorem size_alloc (w : World) (o : Obj) : (w.alloc o).heap.size = w.heap.size + 1 := by simp
end Go.Proofs.Ytbflkdkbfidleaa.Two
namespace Go.Proofs.Ytbflkdkbfidleaa.Two
open Go.RowKit

theorem put_len (s : List Int) (n : Int) : (put s n).length ≤ s.length + 1 := by
  induction s with
  | nil => simp [put]
  | cons y r ih =>
    rw [put]
    split
    · rw [List.length_cons, List.length_cons]; omega
    · split <;> simp
theorem foldl_put_len (l : List Int) : ∀ s : List Int, (l.foldl put s).length ≤ s.length + l.length := by
  induction l with
  | nil => intro s; simp
  | cons y r ih =>
    intro s
    have h1 := ih (put s y)
    have h2 := put_len s y
    rw [List.foldl_cons, List.length_cons]
    omega
set_option maxRecDepth 100000 in
set_option maxHeartbeats 2000000 in
theorem rfrom_any (v : Value) (xs : List Int) (w : World) (h : IsL w w.heap.size v xs) (hl : xs.length ≤ 1000) :
    Calls Try.prog 38 #[v] w fun e w' => ∃ v, e = .returned v ∧ IsL w' w'.heap.size v (mk xs) ∧ Below w.heap.size w w' := by
  obtain ⟨⟨A, cap, rfl, hcap, hA⟩, hfit, hlen⟩ := h
  have HA := Lib.hid hA
  have HF := Lib.hid hfit
  clear hA hfit
  go_enter Try.func38, Try.ntmps38
  go_wp2
  go_loopw [3, 4] (fun u i wr => ∃ k : Nat, k ≤ xs.length ∧ i = .int .i64 (k : Int) ∧ IsL wr wr.heap.size u (mk (xs.take k)) ∧ Below w.heap.size w wr) (fun _ i _ => xs.length - (intOf i).toNat)
  case atStart => exact ⟨0, Nat.zero_le _, rfl, IsL.nil _ _ _ _, Below.refl _ _⟩
  case round =>
    obtain ⟨k, hk, rfl, hu, hbel⟩ := hrel
    have HU := Lib.hid hu
    have HL := Lib.hid hbel
    by_cases hlt : k < xs.length
    · obtain ⟨b, off, rfl, hbB, hcell⟩ := HA.out (by omega)
      have hx : wr.cell? ⟨b, off + k, none⟩ = some (.int .i64 (xs.getD k 0)) := (hbel.cell (p := ⟨b, off + k, none⟩) hbB).trans (hcell k hlt)
      have hml := mk_len_le (xs.take k)
      rw [List.length_take] at hml
      have hput := fun hfx => put_any _ _ (xs.getD k 0) hfx wr hu (by omega)
      have HPU := Lib.hid (hput (getD_fits HF.out k))
      have HTK := Lib.hid (show mk (xs.take (k + 1)) = put (mk (xs.take k)) (xs.getD k 0) by rw [take_getD xs k hlt, mk_snoc])
      clear hcell hu hbel hput hml
      generalize xs.getD k 0 = x at *
      go_wp2_with (go_at_call 59; refine (HPU.out).mono ?_; rintro e w1 ⟨v1, rfl, hv1, hb1⟩)
      have H1 := Lib.hid hv1
      have H2 := Lib.hid (HL.out.trans (hb1.mono HL.out.size))
      clear hv1 hb1
      go_wp2
      go_roundw
      case rel => exact ⟨k + 1, by omega, num_i (by omega), by rw [HTK.out]; exact H1.out, H2.out⟩
      case measure => simp [intOf]; omega
    · obtain rfl : k = xs.length := by omega
      rw [List.take_length] at HU
      clear hu hbel
      go_wp2
      go_ret
      exact ⟨_, rfl, HU.out, HL.out⟩
theorem filter_snoc (l : List Int) (p : Int → Bool) (x : Int) : (l ++ [x]).filter p = l.filter p ++ (if p x then [x] else []) := by
  rw [List.filter_append]
  cases h : p x <;> simp [h]
set_option maxRecDepth 100000 in
set_option maxHeartbeats 2000000 in
theorem rless_any (v u : Value) (xs ys : List Int) (w : World) (h : IsL w w.heap.size v xs) (hy : IsL w w.heap.size u ys) (hl : xs.length ≤ 1000) :
    Calls Try.prog 57 #[v, u] w fun e w' => ∃ v, e = .returned v ∧ IsL w' w'.heap.size v (xs.filter (fun y => !decide (y ∈ ys))) ∧ Below w.heap.size w w' := by
  have HY := Lib.hid hy
  obtain ⟨⟨A, cap, rfl, hcap, hA⟩, hfit, hlen⟩ := h
  have HA := Lib.hid hA
  have HF := Lib.hid hfit
  obtain ⟨B, hB⟩ : ∃ B, B = w.heap.size := ⟨_, rfl⟩
  have HB := Lib.hid hB
  clear hA hfit hy hB
  go_enter Try.func57, Try.ntmps57
  go_wp2
  go_loopw [5, 6] (fun t i wr => ∃ k : Nat, k ≤ xs.length ∧ i = .int .i64 (k : Int) ∧ Own wr w.heap.size t ((xs.take k).filter (fun y => !decide (y ∈ ys))) ∧ Below w.heap.size w wr) (fun _ i _ => xs.length - (intOf i).toNat)
  case atStart => exact ⟨0, Nat.zero_le _, rfl, by simp; exact Own.nil _ _, Below.refl _ _⟩
  case round =>
    obtain ⟨k, hk, rfl, hu, hbel⟩ := hrel
    have HU := Lib.hid hu
    have HL := Lib.hid hbel
    have HFL := Lib.hid (Nat.le_trans (List.length_filter_le (fun y => !decide (y ∈ ys)) (xs.take k)) (by rw [List.length_take]; exact Nat.min_le_left _ _))
    by_cases hlt : k < xs.length
    · obtain ⟨b, off, rfl, hbB, hcell⟩ := HA.out (by omega)
      have hx : wr.cell? ⟨b, off + k, none⟩ = some (.int .i64 (xs.getD k 0)) := (hbel.cell (p := ⟨b, off + k, none⟩) hbB).trans (hcell k hlt)
      have HFX := Lib.hid (getD_fits HF.out k)
      have hin := in_any u ys (xs.getD k 0) wr ((HY.out.below hbel).more hbel.size)
      have HTK := Lib.hid (show (xs.take (k + 1)).filter (fun y => !decide (y ∈ ys)) = (xs.take k).filter (fun y => !decide (y ∈ ys)) ++ (if !decide (xs.getD k 0 ∈ ys) then [xs.getD k 0] else []) by rw [take_getD xs k hlt, filter_snoc])
      have HIN := Lib.hid hin
      clear hcell hu hbel hin
      generalize xs.getD k 0 = x at *
      by_cases hm : x ∈ ys
      · have hd : decide (x ∈ ys) = true := decide_eq_true hm
        have hin := HIN.out
        rw [hd] at hin
        have HIN2 := Lib.hid hin
        rw [hd] at HTK
        clear hm hd hin HIN
        go_wp2_with (go_at_call 39; refine (HIN2.out).mono ?_; rintro e w' ⟨rfl, rfl⟩)
        go_roundw
        case rel => exact ⟨k + 1, by omega, num_i (by omega), by rw [HTK.out]; simpa using HU.out, HL.out⟩
        case measure => simp [intOf]; omega
      · have hd : decide (x ∈ ys) = false := decide_eq_false hm
        have hin := HIN.out
        rw [hd] at hin
        have HIN2 := Lib.hid hin
        rw [hd] at HTK
        clear hm hd hin HIN
        go_wp2_with (first
          | (go_at_call 39; refine (HIN2.out).mono ?_; rintro e w' ⟨rfl, rfl⟩)
          | (at_builtin; refine wpList_app _ rfl _ _ rfl w.heap.size (wr.heap.size + 1) _ _ ((xs.take k).filter (fun y => !decide (y ∈ ys))) [x] rfl rfl (HU.out.alloc _) (IsL.lit wr x HFX.out) ?c1 ?c2 ?_))
        case c1 => have := HFL.out; simp; omega
        case c2 => have := HL.out.size; simp; omega
        intro v1 w1 hown hgrow _
        have hb1 := Own.grow' (HU.out.alloc (.cells #[.int .i64 x] 3)) (HL.out.alloc HL.out.size _) (by have := HL.out.size; simp; omega) hgrow
        have H1 := Lib.hid hown
        have H2 := Lib.hid hb1
        clear hown hgrow hb1
        go_wp2
        go_roundw
        case rel => exact ⟨k + 1, by omega, num_i (by omega), by rw [HTK.out]; exact H1.out, H2.out⟩
        case measure => simp [intOf]; omega
    · obtain rfl : k = xs.length := by omega
      rw [List.take_length] at HU
      have HR := Lib.hid (HU.out.isL (by have := HFL.out; rw [List.take_length] at this; omega))
      clear hu hbel
      go_wp2
      go_ret
      exact ⟨_, rfl, HR.out, HL.out⟩
end Go.Proofs.Ytbflkdkbfidleaa.Two
namespace Go.Proofs.Ytbflkdkbfidleaa.Two
open Go.RowKit

set_option maxRecDepth 100000 in
set_option maxHeartbeats 8000000 in
theorem either_any (v u : Value) (xs ys : List Int) (w : World) (h : IsL w w.heap.size v xs) (hy : IsL w w.heap.size u ys) (hl : xs.length + ys.length ≤ 1000) (hix : Inc xs) (hiy : Inc ys) :
    Calls Try.prog 67 #[v, u] w fun e w' => ∃ v, e = .returned v ∧ IsL w' w'.heap.size v (mk (xs ++ ys)) ∧ Below w.heap.size w w' := by
  obtain ⟨i0, hi, hz0, hz1, hz2⟩ := info_parts int_info
  obtain ⟨⟨A, cap, rfl, hcap, hA⟩, hfit, hlen⟩ := h
  have HY := Lib.hid hy
  obtain ⟨⟨A2, cap2, rfl, hcap2, hA2⟩, hfit2, hlen2⟩ := hy
  have HA := Lib.hid hA
  have HF := Lib.hid hfit
  have HA2 := Lib.hid hA2
  have HF2 := Lib.hid hfit2
  have HIX := Lib.hid hix
  have HIY := Lib.hid hiy
  clear hA hfit hA2 hfit2 hix hiy
  go_enter Try.func67, Try.ntmps67
  go_wp2_with (at_make; refine wpList_make_own _ rfl _ _ 22 rfl w.heap.size 3 i0 (.int .i64 0) 1 Try.underlying22 hi hz0 hz1 _ _ _ (xs.length + ys.length) rfl rfl (by omega) ?bytes ?maxLen ?base ?_)
  case bytes => rw [hz2]; omega
  case maxLen => unfold maxLen; omega
  case base => exact Nat.le_refl _
  intro w0 hown0 hg0
  have HO0 := Lib.hid (show Own w0 w.heap.size (.slice (some ⟨w.heap.size, 0, none⟩) 0 (xs.length + ys.length)) [] from ⟨hown0, fun x hx => by simp at hx⟩)
  have HB0 := Lib.hid (show Below w.heap.size w w0 from (Below.refl _ w).grown hg0 (Nat.le_refl _) (fun k hk => by cases hk))
  clear hown0 hg0
  go_wp2
  go_loopw [5, 6, 17] (fun t q i wr => ∃ (k at' : Nat) (all : List Int), k ≤ xs.length ∧ at' ≤ ys.length ∧ i = .int .i64 (k : Int) ∧ q = .int .i64 (at' : Int) ∧ Own wr w.heap.size t all ∧ Below w.heap.size w wr ∧ OInv xs ys k at' all) (fun _ _ i _ => xs.length - (intOf i).toNat)
  case atStart => exact ⟨0, 0, [], Nat.zero_le _, Nat.zero_le _, rfl, rfl, HO0.out, HB0.out, OInv.start _ _⟩
  case round =>
    clear HO0 HB0
    obtain ⟨k, at', all, hk, hat, rfl, rfl, hown, hbel, hinv⟩ := hrel
    have HO := Lib.hid hown
    have HL := Lib.hid hbel
    have HI := Lib.hid hinv
    by_cases hlt : k < xs.length
    · obtain ⟨b, off, rfl, hbB, hcell⟩ := HA.out (by omega)
      have hx : wr.cell? ⟨b, off + k, none⟩ = some (.int .i64 (xs.getD k 0)) := (hbel.cell (p := ⟨b, off + k, none⟩) hbB).trans (hcell k hlt)
      have HFX := Lib.hid (getD_fits HF.out k)
      have HEN := Lib.hid (hinv.enter hlt)
      have HLV := Lib.hid (fun (t : Nat) (al : List Int) (hh : IInv xs ys k (xs.getD k 0) t al) (hx : t < ys.length → xs.getD k 0 < ys.getD t 0) => hh.leave HIX.out HIY.out hlt hx)
      clear hcell hown hbel hinv HI
      generalize xs.getD k 0 = n at *
      obtain ⟨wo, hwo⟩ : ∃ wo, wo = wr := ⟨_, rfl⟩
      subst hwo
      go_wp2
      go_loopw [5, 6] (fun t q wr => ∃ (at' : Nat) (all : List Int), at' ≤ ys.length ∧ q = .int .i64 (at' : Int) ∧ Own wr w.heap.size t all ∧ Below w.heap.size w wr ∧ IInv xs ys k n at' all) (fun _ q _ => ys.length - (intOf q).toNat)
      case atStart => exact ⟨at', all, hat, rfl, HO.out, HL.out, HEN.out⟩
      case round =>
        clear HO HL HEN hx
        obtain ⟨at', all, hat, rfl, hown, hbel, hinv⟩ := hrel
        have HO := Lib.hid hown
        have HL := Lib.hid hbel
        have HI := Lib.hid hinv
        have HLEN := Lib.hid hinv.len
        by_cases ht : at' < ys.length
        · obtain ⟨b2, off2, rfl, hbB2, hcell2⟩ := HA2.out (by omega)
          have hx2 : wr.cell? ⟨b2, off2 + at', none⟩ = some (.int .i64 (ys.getD at' 0)) := (hbel.cell (p := ⟨b2, off2 + at', none⟩) hbB2).trans (hcell2 at' ht)
          have HFY := Lib.hid (getD_fits HF2.out at')
          have HLS := Lib.hid (fun h => hinv.less HIY.out ht h)
          have HSM := Lib.hid (fun h => hinv.same ht h)
          have HLV2 := Lib.hid (fun h => HLV.out at' all hinv (fun _ => h))
          clear hcell2 hown hbel hinv HI HLV
          generalize ys.getD at' 0 = y at *
          by_cases h1 : y < n
          · have h1' : y ≤ n := by omega
            have HLS2 := Lib.hid (HLS.out h1)
            go_wp2_with (at_builtin; refine wpList_app _ rfl _ _ rfl w.heap.size (wr.heap.size + 1) _ _ all [y] rfl rfl (HO.out.alloc _) (IsL.lit wr y HFY.out) ?c1 ?c2 ?_)
            case c1 => have := HLEN.out; simp; omega
            case c2 => have := HL.out.size; simp; omega
            intro v1 w1 hown hgrow _
            have hb1 := Own.grow' (HO.out.alloc (.cells #[.int .i64 y] 3)) (HL.out.alloc HL.out.size _) (by have := HL.out.size; simp; omega) hgrow
            have H1 := Lib.hid hown
            have H2 := Lib.hid hb1
            clear hown hgrow hb1
            go_wp2
            go_roundw
            case rel => exact ⟨at' + 1, all ++ [y], by omega, num_i (by omega), H1.out, H2.out, HLS2.out⟩
            case measure => simp [intOf]; omega
          · by_cases h2 : y = n
            · have h2' : y ≤ n := by omega
              have HSM2 := Lib.hid (HSM.out h2)
              have h3 : ¬ y < n := h1
              clear h2
              go_wp2
              go_roundw
              case rel => exact ⟨at' + 1, all, by omega, num_i (by omega), HO.out, HL.out, HSM2.out⟩
              case measure => simp [intOf]; omega
            · have h3 : n < y := by omega
              have HLV3 := Lib.hid (HLV2.out h3)
              clear h2 h1
              go_wp2_with (at_builtin; refine wpList_app _ rfl _ _ rfl w.heap.size (wr.heap.size + 1) _ _ all [n] rfl rfl (HO.out.alloc _) (IsL.lit wr n HFX.out) ?c1 ?c2 ?_)
              case c1 => have := HLEN.out; simp; omega
              case c2 => have := HL.out.size; simp; omega
              intro v1 w1 hown hgrow _
              have hb1 := Own.grow' (HO.out.alloc (.cells #[.int .i64 n] 3)) (HL.out.alloc HL.out.size _) (by have := HL.out.size; simp; omega) hgrow
              have H1 := Lib.hid hown
              have H2 := Lib.hid hb1
              clear hown hgrow hb1
              go_wp2
              go_roundw
              case rel => exact ⟨k + 1, at', all ++ [n], by omega, by omega, num_i (by omega), rfl, H1.out, H2.out, HLV3.out⟩
              case measure => simp [intOf]; omega
        · have HLV2 := Lib.hid (HLV.out at' all hinv (fun h => absurd h ht))
          have HLV3 := Lib.hid HLV2.out
          clear hown hbel hinv HI HLV
          go_wp2_with (at_builtin; refine wpList_app _ rfl _ _ rfl w.heap.size (wr.heap.size + 1) _ _ all [n] rfl rfl (HO.out.alloc _) (IsL.lit wr n HFX.out) ?c1 ?c2 ?_)
          case c1 => have := HLEN.out; simp; omega
          case c2 => have := HL.out.size; simp; omega
          intro v1 w1 hown hgrow _
          have hb1 := Own.grow' (HO.out.alloc (.cells #[.int .i64 n] 3)) (HL.out.alloc HL.out.size _) (by have := HL.out.size; simp; omega) hgrow
          have H1 := Lib.hid hown
          have H2 := Lib.hid hb1
          clear hown hgrow hb1
          go_wp2
          go_roundw
          case rel => exact ⟨k + 1, at', all ++ [n], by omega, by omega, num_i (by omega), rfl, H1.out, H2.out, HLV3.out⟩
          case measure => simp [intOf]; omega
    · obtain rfl : k = xs.length := by omega
      have HDN := Lib.hid (hinv.done HIY.out)
      have HLEN := Lib.hid hinv.len
      clear hown hbel hinv HI
      by_cases ht : at' < ys.length
      · obtain ⟨b2, off2, rfl, hbB2, hcell2⟩ := HA2.out (by omega)
        have HD := Lib.hid (IsL.dropIf (cap := cap2) hbB2 hcell2 HF2.out at' (by omega) hcap2 hlen2)
        have HD2 := Lib.hid (IsL.dropLit (cap := cap2) hbB2 hcell2 HF2.out at' (by omega) hcap2 hlen2).2
        have i1 : (0 : Int) ≤ (at' : Int) := by omega
        have i2 : (at' : Int) ≤ (ys.length : Int) := by omega
        clear hcell2
        go_wp2_with (first
          | (at_builtin; refine wpList_app _ rfl _ _ rfl w.heap.size w.heap.size _ _ all (ys.drop at') rfl rfl HO.out (HD.out.below HL.out) ?c1 ?c2 ?_)
          | (at_builtin; refine wpList_app _ rfl _ _ rfl w.heap.size w.heap.size _ _ all (ys.drop at') rfl rfl HO.out (HD2.out.below HL.out) ?c1 ?c2 ?_))
        case c1 => have := HLEN.out; simp; omega
        case c2 => exact HL.out.size
        intro v1 w1 hown hgrow _
        have hb1 := Own.grow' HO.out HL.out HL.out.size hgrow
        have hr : all ++ ys.drop at' = mk (xs ++ ys) := HDN.out
        rw [hr] at hown
        have H1 := Lib.hid (hown.isL (by have := mk_len_le (xs ++ ys); rw [List.length_append] at this; omega))
        have H2 := Lib.hid hb1
        clear hown hgrow hb1
        go_wp2
        go_ret
        exact ⟨_, rfl, H1.out, H2.out⟩
      · obtain rfl : at' = ys.length := by omega
        rw [List.drop_length] at HDN
        by_cases hy0 : 0 < ys.length
        · obtain ⟨b2, off2, rfl, hbB2, hcell2⟩ := HA2.out hy0
          clear hcell2
          by_cases hc2 : cap2 = ys.length
          · go_wp2_with (at_builtin; refine wpList_app _ rfl _ _ rfl w.heap.size w.heap.size _ _ all [] rfl rfl HO.out (IsL.nil _ _ _ _) ?c1 ?c2 ?_)
            case c1 => have := HLEN.out; simp; omega
            case c2 => exact HL.out.size
            intro v1 w1 hown hgrow _
            have hb1 := Own.grow' HO.out HL.out HL.out.size hgrow
            have hr : all = mk (xs ++ ys) := by have := HDN.out; simpa using this
            rw [hr] at hown
            have H1 := Lib.hid (hown.isL (by have := mk_len_le (xs ++ ys); rw [List.length_append] at this; omega))
            have H2 := Lib.hid hb1
            clear hown hgrow hb1
            go_wp2
            go_ret
            exact ⟨_, rfl, H1.out, H2.out⟩
          · go_wp2_with (at_builtin; refine wpList_app _ rfl _ _ rfl w.heap.size w.heap.size _ _ all [] rfl rfl HO.out (IsL.nil _ _ _ _) ?c1 ?c2 ?_)
            case c1 => have := HLEN.out; simp; omega
            case c2 => exact HL.out.size
            intro v1 w1 hown hgrow _
            have hb1 := Own.grow' HO.out HL.out HL.out.size hgrow
            have hr : all = mk (xs ++ ys) := by have := HDN.out; simpa using this
            rw [hr] at hown
            have H1 := Lib.hid (hown.isL (by have := mk_len_le (xs ++ ys); rw [List.length_append] at this; omega))
            have H2 := Lib.hid hb1
            clear hown hgrow hb1
            go_wp2
            go_ret
            exact ⟨_, rfl, H1.out, H2.out⟩
        · have hz : ys.length = 0 := by omega
          rw [hz]
          go_wp2_with (at_builtin; refine wpList_app _ rfl _ _ rfl w.heap.size w.heap.size _ _ all [] rfl rfl HO.out (IsL.nil _ _ _ _) ?c1 ?c2 ?_)
          case c1 => have := HLEN.out; simp; omega
          case c2 => exact HL.out.size
          intro v1 w1 hown hgrow _
          have hb1 := Own.grow' HO.out HL.out HL.out.size hgrow
          have hr : all = mk (xs ++ ys) := by have := HDN.out; simpa using this
          rw [hr] at hown
          have H1 := Lib.hid (hown.isL (by have := mk_len_le (xs ++ ys); rw [List.length_append] at this; omega))
          have H2 := Lib.hid hb1
          clear hown hgrow hb1
          go_wp2
          go_ret
          exact ⟨_, rfl, H1.out, H2.out⟩
end Go.Proofs.Ytbflkdkbfidleaa.Two
