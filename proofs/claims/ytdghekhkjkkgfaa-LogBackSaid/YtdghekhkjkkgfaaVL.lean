/- Logs: what a well held in a version, and what an arm did. -/
import Derived.Test.YtdghekhkjkkgfaaVK
import Derived.Test.YtdghekhkjkkgfaaNA
namespace Go.Proofs.Ytdghekhkjkkgfaa
open Go.RowKit

/-- A sum over changes. -/
def gS (f : Ch → Int) (xs : List Ch) : Int := (xs.map f).sum
theorem gS_snoc (f : Ch → Int) (xs : List Ch) (k : Nat) (hk : k < xs.length) : gS f (xs.take (k + 1)) = gS f (xs.take k) + f (xs.getD k ch0) := by
  unfold gS
  rw [take_snoc xs k ch0 hk, List.map_append, List.sum_append]
  simp
theorem gS_le (f : Ch → Int) (xs : List Ch) (h : ∀ q ∈ xs, -1099511627776 ≤ f q ∧ f q ≤ 1099511627776) (k : Nat) (hk : k ≤ xs.length) : -(1099511627776 * (k : Int)) ≤ gS f (xs.take k) ∧ gS f (xs.take k) ≤ 1099511627776 * (k : Int) := by
  induction k with
  | zero => simp [gS]
  | succ k ih =>
    have q := h _ (getD_mem' xs k ch0 (by omega))
    have e := gS_snoc f xs k (by omega)
    have i := ih (by omega)
    omega
/-- All changes of a right log are such that may be. -/
theorem rl_small {r l : Int} {xs : List Ch} (h : rgB r l xs = true) : xs.length ≤ 64 ∧ ∀ q ∈ xs, -1099511627776 ≤ q.c ∧ q.c ≤ 1099511627776 := by
  obtain ⟨⟨_, _, _, _, _, _⟩, h2⟩ := rg_parts h
  refine ⟨by omega, fun q hq => ?_⟩
  obtain ⟨i, hi, rfl⟩ := List.mem_iff_getElem.1 hq
  have k := rl_at h2 i hi
  unfold okC mayB at k
  rw [Bool.and_eq_true, decide_eq_true_eq, decide_eq_true_eq, List.getD_eq_getElem?_getD, List.getElem?_eq_getElem hi] at k
  have k2 := k.2
  dsimp only [Option.getD_some] at k2
  omega
/-- What a well held in a version. -/
def atV (r l : Int) (xs : List Ch) (o v : Int) : Int := if snE r l xs v = 0 then fitV (o - gS Ch.c (snL l xs v)) else 0
def atE (r l : Int) (xs : List Ch) (o v : Int) : Int := if snE r l xs v = 0 then fitE (o - gS Ch.c (snL l xs v)) else snE r l xs v
def netF (b : Int) (q : Ch) : Int := if q.b = b then q.c else 0
/-- What an arm did, together. -/
def netV (r l : Int) (xs : List Ch) (b : Int) : Int := if rgB r l xs = true then gS (netF b) xs else 0
theorem sn_small {r l : Int} {xs : List Ch} {v : Int} (h : snE r l xs v = 0) : (snL l xs v).length ≤ 64 ∧ ∀ q ∈ snL l xs v, -1099511627776 ≤ q.c ∧ q.c ≤ 1099511627776 := by
  obtain ⟨h1, _⟩ := sn_ok h
  obtain ⟨h2, h3⟩ := rl_small h1
  unfold snL
  refine ⟨by rw [List.length_drop]; omega, fun q hq => h3 q (List.mem_of_mem_drop hq)⟩

set_option maxRecDepth 100000 in
set_option maxHeartbeats 1000000 in
theorem at_any (r l : Int) (A : Option Addr) (c : Nat) (xs : List Ch) (o v : Int) (ho : fits o) (w : World) (hv : KC.IsL w w.heap.size (.slice A xs.length c) xs) : Calls Try.prog 18 #[lgV r l A xs.length c, .int .i64 o, .int .i64 v] w fun e w' =>
    e = .returned (.tuple #[.int .i64 (atV r l xs o v), .int .i64 (atE r l xs o v)]) ∧ Below w.heap.size w w' := by
  have HV := Lib.hid hv
  clear hv
  obtain ⟨w0, hw0⟩ : ∃ w0, w0 = w.alloc (.cells #[.int .i64 r, .int .i64 l, .slice A xs.length c] 24) := ⟨_, rfl⟩
  have HB0 := Lib.hid (show Below w.heap.size w w0 by rw [hw0]; exact Below.al (Below.refl _ _) _)
  have HA0 := Lib.hid (show Cells3 w0 w.heap.size (.int .i64 r) (.int .i64 l) (.slice A xs.length c) by rw [hw0]; exact Cells3.new w _ _ _ _)
  unfold atV atE
  by_cases hE : snE r l xs v = 0
  · rw [if_pos hE, if_pos hE]
    have HS := Lib.hid (fun w h => since_ok r l A c xs v hE w h)
    obtain ⟨hys, hyc⟩ := sn_small hE
    generalize snL l xs v = ys at *
    have HN := Lib.hid (fun k hk => gS_le Ch.c ys hyc k hk)
    have HC := Lib.hid (fun k hk => gS_snoc Ch.c ys k hk)
    have HT := Lib.hid (show fits (gS Ch.c ys) by
      have q := HN.out ys.length (Nat.le_refl _)
      rw [List.take_length] at q
      unfold fits
      omega)
    have HU := Lib.hid (fun w => sub_any o (gS Ch.c ys) ho HT.out w)
    clear hE hyc ho
    go_enter Try.func18, Try.ntmps18
    go_wp2_with fail
    rw [← hw0]
    clear hw0
    obtain ⟨G, hG⟩ : ∃ G, w.heap.size = G := ⟨_, rfl⟩
    rw [hG] at HA0
    simp only [hG]
    refine (HS.out _ (HV.out.then HB0.out)).mono ?_
    rintro e w1 ⟨A2, c2, rfl, hi, hb1⟩
    have HB1 := Lib.hid (Below.call HB0.out hb1)
    have HI := Lib.hid hi
    clear hb1 HB0 hi HA0
    go_wp2
    go_loopw [10, 24] (fun t i wr => ∃ k : Nat, i = .int .i64 k ∧ t = .int .i64 (gS Ch.c (ys.take k)) ∧ k ≤ ys.length ∧ Below w1.heap.size w1 wr) (fun _ i _ => ys.length - (intOf i).toNat)
    case atStart => exact ⟨0, rfl, rfl, Nat.zero_le _, Below.refl _ _⟩
    case round =>
      obtain ⟨k, rfl, rfl, hk, hbl⟩ := hrel
      have HB := Lib.hid hbl
      clear hbl
      have hnk := HN.out k hk
      by_cases hlt : k < ys.length
      · obtain ⟨b', off, rfl, hb', hbc, hcell⟩ := ch_cells (HI.out.below HB.out) (by omega)
        obtain ⟨e1, e2, e3⟩ := hcell k hlt
        have hck := HC.out k hlt
        have hnk2 := HN.out (k + 1) hlt
        have hbw : b' < wr.heap.size := Nat.lt_of_lt_of_le hb' HB.out.size
        clear hcell
        rw [hck] at hnk2
        have HCK := Lib.hid hck
        clear hck
        generalize ys.getD k ch0 = q at *
        obtain ⟨a, b, n⟩ := q
        dsimp only at *
        generalize gS Ch.c (ys.take k) = s at *
        go_wp2
        go_roundw
        case rel => exact ⟨k + 1, num_i (by omega), by first | (rw [HCK.out]; done) | (rw [HCK.out]; exact num_i (by omega)), by omega, Below.al HB.out _⟩
        case measure => simp [intOf]; omega
      · obtain rfl : k = ys.length := by omega
        rw [List.take_length] at *
        go_wp2_with fail
        refine (HU.out _).mono ?_
        rintro e w5 ⟨rfl, rfl⟩
        go_wp2
        go_ret2
        exact ⟨rfl, Below.call HB1.out HB.out⟩
  · rw [if_neg hE, if_neg hE]
    have HS := Lib.hid (fun w h => since_bad r l A c xs v hE w h)
    have hE2 : (snE r l xs v != 0) = true := by rw [bne_iff_ne]; exact hE
    clear ho
    generalize snE r l xs v = z at *
    go_enter Try.func18, Try.ntmps18
    go_wp2_with fail
    rw [← hw0]
    clear hw0
    obtain ⟨G, hG⟩ : ∃ G, w.heap.size = G := ⟨_, rfl⟩
    simp only [hG]
    refine (HS.out _ (HV.out.then HB0.out)).mono ?_
    rintro e w1 ⟨rfl, hb1⟩
    have HB1 := Lib.hid (Below.call HB0.out hb1)
    clear hb1 HB0
    go_wp2
    go_ret2
    exact ⟨rfl, HB1.out⟩

set_option maxRecDepth 100000 in
set_option maxHeartbeats 1000000 in
theorem rat_any (r l : Int) (A : Option Addr) (c : Nat) (xs : List Ch) (o v : Int) (ho : fits o) (w : World) (hv : KC.IsL w w.heap.size (.slice A xs.length c) xs) : Calls Try.prog 19 #[lgV r l A xs.length c, .int .i64 o, .int .i64 v] w fun e w' =>
    e = .returned (.tuple #[.int .i64 (atV r l xs o v), .int .i64 (atE r l xs o v)]) ∧ Below w.heap.size w w' := by
  have HV := Lib.hid hv
  clear hv
  obtain ⟨w0, hw0⟩ : ∃ w0, w0 = w.alloc (.cells #[.int .i64 r, .int .i64 l, .slice A xs.length c] 24) := ⟨_, rfl⟩
  have HB0 := Lib.hid (show Below w.heap.size w w0 by rw [hw0]; exact Below.al (Below.refl _ _) _)
  have HA0 := Lib.hid (show Cells3 w0 w.heap.size (.int .i64 r) (.int .i64 l) (.slice A xs.length c) by rw [hw0]; exact Cells3.new w _ _ _ _)
  unfold atV atE
  by_cases hE : snE r l xs v = 0
  · rw [if_pos hE, if_pos hE]
    have HS := Lib.hid (fun w h => rsince_ok r l A c xs v hE w h)
    obtain ⟨hys, hyc⟩ := sn_small hE
    generalize snL l xs v = ys at *
    have HN := Lib.hid (fun k hk => gS_le Ch.c ys hyc k hk)
    have HC := Lib.hid (fun k hk => gS_snoc Ch.c ys k hk)
    have HT := Lib.hid (show fits (gS Ch.c ys) by
      have q := HN.out ys.length (Nat.le_refl _)
      rw [List.take_length] at q
      unfold fits
      omega)
    have HU := Lib.hid (fun w => rsub_any o (gS Ch.c ys) ho HT.out w)
    clear hE hyc ho
    go_enter Try.func19, Try.ntmps19
    go_wp2_with fail
    rw [← hw0]
    clear hw0
    obtain ⟨G, hG⟩ : ∃ G, w.heap.size = G := ⟨_, rfl⟩
    rw [hG] at HA0
    simp only [hG]
    refine (HS.out _ (HV.out.then HB0.out)).mono ?_
    rintro e w1 ⟨A2, c2, rfl, hi, hb1⟩
    have HB1 := Lib.hid (Below.call HB0.out hb1)
    have HI := Lib.hid hi
    clear hb1 HB0 hi HA0
    go_wp2
    go_loopw [10, 11] (fun t i wr => ∃ k : Nat, i = .int .i64 k ∧ t = .int .i64 (gS Ch.c (ys.take k)) ∧ k ≤ ys.length ∧ Below w1.heap.size w1 wr) (fun _ i _ => ys.length - (intOf i).toNat)
    case atStart => exact ⟨0, rfl, rfl, Nat.zero_le _, Below.refl _ _⟩
    case round =>
      obtain ⟨k, rfl, rfl, hk, hbl⟩ := hrel
      have HB := Lib.hid hbl
      clear hbl
      have hnk := HN.out k hk
      by_cases hlt : k < ys.length
      · obtain ⟨b', off, rfl, hb', hbc, hcell⟩ := ch_cells (HI.out.below HB.out) (by omega)
        obtain ⟨e1, e2, e3⟩ := hcell k hlt
        have hck := HC.out k hlt
        have hnk2 := HN.out (k + 1) hlt
        have hbw : b' < wr.heap.size := Nat.lt_of_lt_of_le hb' HB.out.size
        clear hcell
        rw [hck] at hnk2
        have HCK := Lib.hid hck
        clear hck
        generalize ys.getD k ch0 = q at *
        obtain ⟨a, b, n⟩ := q
        dsimp only at *
        generalize gS Ch.c (ys.take k) = s at *
        go_wp2
        go_roundw
        case rel => exact ⟨k + 1, num_i (by omega), by first | (rw [HCK.out]; done) | (rw [HCK.out]; exact num_i (by omega)), by omega, HB.out⟩
        case measure => simp [intOf]; omega
      · obtain rfl : k = ys.length := by omega
        rw [List.take_length] at *
        go_wp2_with fail
        refine (HU.out _).mono ?_
        rintro e w5 ⟨rfl, rfl⟩
        go_wp2
        go_ret2
        exact ⟨rfl, Below.call HB1.out HB.out⟩
  · rw [if_neg hE, if_neg hE]
    have HS := Lib.hid (fun w h => rsince_bad r l A c xs v hE w h)
    have hE2 : (snE r l xs v != 0) = true := by rw [bne_iff_ne]; exact hE
    clear ho
    generalize snE r l xs v = z at *
    go_enter Try.func19, Try.ntmps19
    go_wp2_with fail
    rw [← hw0]
    clear hw0
    obtain ⟨G, hG⟩ : ∃ G, w.heap.size = G := ⟨_, rfl⟩
    simp only [hG]
    refine (HS.out _ (HV.out.then HB0.out)).mono ?_
    rintro e w1 ⟨rfl, hb1⟩
    have HB1 := Lib.hid (Below.call HB0.out hb1)
    clear hb1 HB0
    go_wp2
    go_ret2
    exact ⟨rfl, HB1.out⟩

set_option maxRecDepth 100000 in
set_option maxHeartbeats 1000000 in
theorem net_any (r l : Int) (A : Option Addr) (c : Nat) (xs : List Ch) (y : Int) (w : World) (hv : KC.IsL w w.heap.size (.slice A xs.length c) xs) : Calls Try.prog 21 #[lgV r l A xs.length c, .int .i64 y] w fun e w' =>
    e = .returned (.int .i64 (netV r l xs y)) ∧ Below w.heap.size w w' := by
  have HV := Lib.hid hv
  have HR := Lib.hid (fun w h => right_any' r l A c xs w h)
  clear hv
  obtain ⟨w0, hw0⟩ : ∃ w0, w0 = w.alloc (.cells #[.int .i64 r, .int .i64 l, .slice A xs.length c] 24) := ⟨_, rfl⟩
  have HB0 := Lib.hid (show Below w.heap.size w w0 by rw [hw0]; exact Below.al (Below.refl _ _) _)
  have HA0 := Lib.hid (show Cells3 w0 w.heap.size (.int .i64 r) (.int .i64 l) (.slice A xs.length c) by rw [hw0]; exact Cells3.new w _ _ _ _)
  unfold netV
  cases h1 : rgB r l xs
  · rw [if_neg (by decide)]
    rw [h1] at HR
    clear h1
    go_enter Try.func21, Try.ntmps21
    go_wp2_with fail
    rw [← hw0]
    clear hw0
    obtain ⟨G, hG⟩ : ∃ G, w.heap.size = G := ⟨_, rfl⟩
    rw [hG] at HA0
    simp only [hG]
    refine (HR.out _ (HV.out.then HB0.out)).mono ?_
    rintro e w1 ⟨rfl, hb1⟩
    have HA1 := Lib.hid (HA0.out.below hb1)
    have HB1 := Lib.hid (Below.call HB0.out hb1)
    clear hb1 HA0 HB0
    obtain ⟨a0, a1, a2, _⟩ := HA1.out
    go_wp2
    go_ret
    exact ⟨rfl, HB1.out⟩
  · rw [if_pos rfl]
    obtain ⟨hxs, hxc⟩ := rl_small h1
    rw [h1] at HR
    clear h1
    have HN := Lib.hid (fun k hk => gS_le (netF y) xs (fun q hq => by
      have := hxc q hq
      unfold netF
      split <;> omega) k hk)
    have HC := Lib.hid (fun k hk => gS_snoc (netF y) xs k hk)
    have HNF := Lib.hid (show ∀ q : Ch, netF y q = if q.b = y then q.c else 0 from fun _ => rfl)
    clear hxc
    go_enter Try.func21, Try.ntmps21
    go_wp2_with fail
    rw [← hw0]
    clear hw0
    obtain ⟨G, hG⟩ : ∃ G, w.heap.size = G := ⟨_, rfl⟩
    rw [hG] at HA0
    simp only [hG]
    refine (HR.out _ (HV.out.then HB0.out)).mono ?_
    rintro e w1 ⟨rfl, hb1⟩
    have HA1 := Lib.hid (HA0.out.below hb1)
    have HB1 := Lib.hid (Below.call HB0.out hb1)
    clear hb1 HA0 HB0
    obtain ⟨a0, a1, a2, _⟩ := HA1.out
    have HF := Lib.hid (show ∀ wr, Below w1.heap.size w1 wr → Cells3 wr G (.int .i64 r) (.int .i64 l) (.slice A xs.length c) from fun wr hb => HA1.out.below hb)
    go_wp2
    clear a0 a1 a2
    go_loopw [5, 14] (fun t i wr => ∃ k : Nat, i = .int .i64 k ∧ t = .int .i64 (gS (netF y) (xs.take k)) ∧ k ≤ xs.length ∧ Below w1.heap.size w1 wr) (fun _ i _ => xs.length - (intOf i).toNat)
    case atStart => exact ⟨0, rfl, rfl, Nat.zero_le _, Below.refl _ _⟩
    case round =>
      obtain ⟨k, rfl, rfl, hk, hbl⟩ := hrel
      have HB := Lib.hid hbl
      clear hbl
      have hnk := HN.out k hk
      by_cases hlt : k < xs.length
      · obtain ⟨b', off, rfl, hb', hbc, hcell⟩ := ch_cells (HV.out.below (Below.call HB1.out HB.out)) (by omega)
        obtain ⟨e1, e2, e3⟩ := hcell k hlt
        have hck := HC.out k hlt
        have hnk2 := HN.out (k + 1) hlt
        have hbw : b' < wr.heap.size := Nat.lt_of_lt_of_le hb' (Nat.le_trans HB1.out.size HB.out.size)
        clear hcell
        rw [hck, HNF.out] at hnk2
        rw [HNF.out] at hck
        have HCK := Lib.hid hck
        clear hck
        generalize xs.getD k ch0 = q at *
        obtain ⟨a, b, n⟩ := q
        dsimp only at *
        generalize gS (netF y) (xs.take k) = s at *
        by_cases hby : b = y
        · rw [if_pos hby] at hnk2 HCK
          go_wp2
          go_roundw
          case rel => exact ⟨k + 1, num_i (by omega), by first | (rw [HCK.out]; done) | (rw [HCK.out]; exact num_i (by omega)), by omega, Below.al HB.out _⟩
          case measure => simp [intOf]; omega
        · rw [if_neg hby] at hnk2 HCK
          go_wp2
          go_roundw
          case rel => exact ⟨k + 1, num_i (by omega), by first | (rw [HCK.out]; done) | (rw [HCK.out]; exact num_i (by omega)), by omega, Below.al HB.out _⟩
          case measure => simp [intOf]; omega
      · obtain rfl : k = xs.length := by omega
        rw [List.take_length] at *
        go_wp2
        go_ret
        exact ⟨rfl, Below.call HB1.out HB.out⟩

set_option maxRecDepth 100000 in
set_option maxHeartbeats 1000000 in
theorem rnet_any (r l : Int) (A : Option Addr) (c : Nat) (xs : List Ch) (y : Int) (w : World) (hv : KC.IsL w w.heap.size (.slice A xs.length c) xs) : Calls Try.prog 22 #[lgV r l A xs.length c, .int .i64 y] w fun e w' =>
    e = .returned (.int .i64 (netV r l xs y)) ∧ Below w.heap.size w w' := by
  have HV := Lib.hid hv
  have HR := Lib.hid (fun w h => rlright_any r l A c xs w h)
  clear hv
  obtain ⟨w0, hw0⟩ : ∃ w0, w0 = w.alloc (.cells #[.int .i64 r, .int .i64 l, .slice A xs.length c] 24) := ⟨_, rfl⟩
  have HB0 := Lib.hid (show Below w.heap.size w w0 by rw [hw0]; exact Below.al (Below.refl _ _) _)
  have HA0 := Lib.hid (show Cells3 w0 w.heap.size (.int .i64 r) (.int .i64 l) (.slice A xs.length c) by rw [hw0]; exact Cells3.new w _ _ _ _)
  unfold netV
  cases h1 : rgB r l xs
  · rw [if_neg (by decide)]
    rw [h1] at HR
    clear h1
    go_enter Try.func22, Try.ntmps22
    go_wp2_with fail
    rw [← hw0]
    clear hw0
    obtain ⟨G, hG⟩ : ∃ G, w.heap.size = G := ⟨_, rfl⟩
    rw [hG] at HA0
    simp only [hG]
    refine (HR.out _ (HV.out.then HB0.out)).mono ?_
    rintro e w1 ⟨rfl, hb1⟩
    have HA1 := Lib.hid (HA0.out.below hb1)
    have HB1 := Lib.hid (Below.call HB0.out hb1)
    clear hb1 HA0 HB0
    obtain ⟨a0, a1, a2, _⟩ := HA1.out
    go_wp2
    go_ret
    exact ⟨rfl, HB1.out⟩
  · rw [if_pos rfl]
    obtain ⟨hxs, hxc⟩ := rl_small h1
    rw [h1] at HR
    clear h1
    have HN := Lib.hid (fun k hk => gS_le (netF y) xs (fun q hq => by
      have := hxc q hq
      unfold netF
      split <;> omega) k hk)
    have HC := Lib.hid (fun k hk => gS_snoc (netF y) xs k hk)
    have HNF := Lib.hid (show ∀ q : Ch, netF y q = if q.b = y then q.c else 0 from fun _ => rfl)
    clear hxc
    go_enter Try.func22, Try.ntmps22
    go_wp2_with fail
    rw [← hw0]
    clear hw0
    obtain ⟨G, hG⟩ : ∃ G, w.heap.size = G := ⟨_, rfl⟩
    rw [hG] at HA0
    simp only [hG]
    refine (HR.out _ (HV.out.then HB0.out)).mono ?_
    rintro e w1 ⟨rfl, hb1⟩
    have HA1 := Lib.hid (HA0.out.below hb1)
    have HB1 := Lib.hid (Below.call HB0.out hb1)
    clear hb1 HA0 HB0
    obtain ⟨a0, a1, a2, _⟩ := HA1.out
    have HF := Lib.hid (show ∀ wr, Below w1.heap.size w1 wr → Cells3 wr G (.int .i64 r) (.int .i64 l) (.slice A xs.length c) from fun wr hb => HA1.out.below hb)
    go_wp2
    clear a0 a1 a2
    go_loopw [5, 6] (fun t i wr => ∃ k : Nat, i = .int .i64 k ∧ t = .int .i64 (gS (netF y) (xs.take k)) ∧ k ≤ xs.length ∧ Below w1.heap.size w1 wr) (fun _ i _ => xs.length - (intOf i).toNat)
    case atStart => exact ⟨0, rfl, rfl, Nat.zero_le _, Below.refl _ _⟩
    case round =>
      obtain ⟨k, rfl, rfl, hk, hbl⟩ := hrel
      have HB := Lib.hid hbl
      obtain ⟨c1, c2, c3, _⟩ := HF.out wr hbl
      clear hbl
      have hnk := HN.out k hk
      by_cases hlt : k < xs.length
      · obtain ⟨b', off, rfl, hb', hbc, hcell⟩ := ch_cells (HV.out.below (Below.call HB1.out HB.out)) (by omega)
        obtain ⟨e1, e2, e3⟩ := hcell k hlt
        have hck := HC.out k hlt
        have hnk2 := HN.out (k + 1) hlt
        have hbw : b' < wr.heap.size := Nat.lt_of_lt_of_le hb' (Nat.le_trans HB1.out.size HB.out.size)
        clear hcell
        rw [hck, HNF.out] at hnk2
        rw [HNF.out] at hck
        have HCK := Lib.hid hck
        clear hck
        generalize xs.getD k ch0 = q at *
        obtain ⟨a, b, n⟩ := q
        dsimp only at *
        generalize gS (netF y) (xs.take k) = s at *
        by_cases hby : b = y
        · rw [if_pos hby] at hnk2 HCK
          go_wp2
          go_roundw
          case rel => exact ⟨k + 1, num_i (by omega), by first | (rw [HCK.out]; done) | (rw [HCK.out]; exact num_i (by omega)), by omega, HB.out⟩
          case measure => simp [intOf]; omega
        · rw [if_neg hby] at hnk2 HCK
          go_wp2
          go_roundw
          case rel => exact ⟨k + 1, num_i (by omega), by first | (rw [HCK.out]; done) | (rw [HCK.out]; exact num_i (by omega)), by omega, HB.out⟩
          case measure => simp [intOf]; omega
      · obtain rfl : k = xs.length := by omega
        rw [List.take_length] at *
        go_wp2
        go_ret
        exact ⟨rfl, Below.call HB1.out HB.out⟩

end Go.Proofs.Ytdghekhkjkkgfaa
