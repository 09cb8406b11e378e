/- The lanes that parts need: what the program and the reference answer. -/
import Derived.Test.YtlgpnjbhmoomfaaZO
namespace Go.Proofs.Ytlgpnjbhmoomfaa
open Go.RowKit

noncomputable def lanP (d : Dk) (p : Int × Int) : List Int := lanesI (frst d) p.1.toNat (p.2.toNat + 1 - p.1.toNat)
noncomputable def foldS (d : Dk) (l : List (Int × Int)) : List Int := l.foldl (fun s p => Two.mk (s ++ lanP d p)) []
noncomputable def setV (d : Dk) (ids : List Int) : List Int := foldS d (spsL d ids)
theorem sps_good (d : Dk) {w : World} (hd : d.In w w.heap.size) (ids : List Int) : ∀ p ∈ spsL d ids, 0 ≤ p.1 ∧ p.1 ≤ p.2 ∧ p.2 ≤ 23 := by
  intro p hp
  unfold spsL at hp
  by_cases he : spsE d ids = 0
  · rw [if_pos he] at hp
    obtain ⟨x, hx, rfl⟩ := List.mem_map.1 hp
    unfold spsE at he
    by_cases hz : zchk d = 0
    · rw [if_pos hz] at he
      by_cases ha : ids.all (inR d) = true
      · exact spA_good d hd hz x (List.all_eq_true.1 ha x hx)
      · rw [if_neg ha] at he; exact absurd he (by decide)
    · rw [if_neg hz] at he; exact absurd he hz
  · rw [if_neg he] at hp; cases hp
theorem sps_len (d : Dk) (ids : List Int) : (spsL d ids).length ≤ ids.length := by
  unfold spsL
  split
  · simp
  · simp
theorem lanes_inc (F : Int) (lo n : Nat) : Two.Inc (lanesI F lo n) := by
  unfold Two.Inc lanesI
  rw [List.pairwise_map]
  exact List.pairwise_lt_range.imp fun h => by omega
theorem lanes_mem (F : Int) (lo n : Nat) : ∀ x ∈ lanesI F lo n, F + lo ≤ x ∧ x < F + lo + n := by
  intro x hx
  unfold lanesI at hx
  obtain ⟨i, hi, rfl⟩ := List.mem_map.1 hx
  have := List.mem_range.1 hi
  omega
theorem inc_len (xs : List Int) : ∀ (a : Int) (n : Nat), Two.Inc xs → (∀ x ∈ xs, a ≤ x ∧ x < a + n) → xs.length ≤ n := by
  induction xs with
  | nil => intro a n _ _; exact Nat.zero_le _
  | cons x r ih =>
    intro a n hi hm
    obtain ⟨h1, h2⟩ := Two.inc_cons.1 hi
    have hx := hm x (by simp)
    have := ih (x + 1) (a + n - (x + 1)).toNat h2 fun y hy => by
      have := h1 y hy
      have := hm y (by simp [hy])
      omega
    rw [List.length_cons]
    omega
theorem fold_good (d : Dk) (l : List (Int × Int)) (h : ∀ p ∈ l, 0 ≤ p.1 ∧ p.1 ≤ p.2 ∧ p.2 ≤ 23) : Two.Inc (foldS d l) ∧ ∀ x ∈ foldS d l, frst d ≤ x ∧ x < frst d + 24 := by
  unfold foldS
  suffices ∀ s : List Int, (Two.Inc s ∧ ∀ x ∈ s, frst d ≤ x ∧ x < frst d + 24) → Two.Inc (l.foldl (fun s p => Two.mk (s ++ lanP d p)) s) ∧ ∀ x ∈ l.foldl (fun s p => Two.mk (s ++ lanP d p)) s, frst d ≤ x ∧ x < frst d + 24 from this [] ⟨Two.inc_nil, fun x hx => by cases hx⟩
  induction l with
  | nil => intro s hs; exact hs
  | cons p l ih =>
    intro s hs
    rw [List.foldl_cons]
    refine ih (fun q hq => h q (by simp [hq])) _ ⟨Two.inc_mk _, fun x hx => ?_⟩
    rw [Two.mem_mk] at hx
    rcases List.mem_append.1 hx with hx | hx
    · exact hs.2 x hx
    · have h0 := h p (by simp)
      have := lanes_mem _ _ _ x hx
      omega
theorem fold_len (d : Dk) (l : List (Int × Int)) (h : ∀ p ∈ l, 0 ≤ p.1 ∧ p.1 ≤ p.2 ∧ p.2 ≤ 23) : (foldS d l).length ≤ 24 := by
  obtain ⟨h1, h2⟩ := fold_good d l h
  exact inc_len _ (frst d) 24 h1 h2
theorem fold_snoc (d : Dk) (l : List (Int × Int)) (k : Nat) (hk : k < l.length) : foldS d (l.take (k + 1)) = Two.mk (foldS d (l.take k) ++ lanP d (l.getD k (0, 0))) := by
  rw [take_snoc l k (0, 0) hk]
  unfold foldS
  rw [List.foldl_append]
  rfl
theorem spsE_0 (d : Dk) (ids : List Int) (h : spsE d ids ≠ 0) : spsL d ids = [] := by unfold spsL; rw [if_neg h]

set_option maxRecDepth 100000 in
set_option maxHeartbeats 8000000 in
theorem needs_any (d : Dk) (v : Value) (ids : List Int) (w : World) (hd : d.In w w.heap.size) (hv : KI.IsL w w.heap.size v ids) (hl : ids.length ≤ 1000) : Calls Try.prog 23 #[d.v, v] w fun e w' => ∃ u, e = .returned (.tuple #[u, .int .i64 (spsE d ids)]) ∧ KI.IsL w' w'.heap.size u (setV d ids) ∧ Below w.heap.size w w' := by
  have HD := Lib.hid hd
  have HSP := Lib.hid (fun w h1 h2 => spans_any d v ids w h1 h2 hl)
  have HV := Lib.hid hv
  have HGD := Lib.hid (sps_good d hd ids)
  have HLN := Lib.hid (sps_len d ids)
  have HE0 := Lib.hid (spsE_0 d ids)
  have HST := Lib.hid (show setV d ids = foldS d (spsL d ids) from rfl)
  obtain ⟨w0, hw0⟩ : ∃ w0, w0 = w.alloc (.cells #[.slice d.bA d.bn d.bc, .slice d.pA d.pn d.pc, .slice d.rA d.rn d.rc, .int .i64 d.arms] 26) := ⟨_, rfl⟩
  have HB0 := Lib.hid (show Below w.heap.size w w0 by rw [hw0]; exact Below.al (Below.refl _ _) _)
  have HD0 := Lib.hid (HD.out.then HB0.out)
  have hsz0 : w.heap.size < w0.heap.size := by rw [hw0]; simp
  have HF := Lib.hid (show ∀ w1, Below w0.heap.size w0 w1 → (w1.cell? ⟨w.heap.size, 0, none⟩ = some (.slice d.bA d.bn d.bc) ∧ w1.cell? ⟨w.heap.size, 1, none⟩ = some (.slice d.pA d.pn d.pc) ∧ w1.cell? ⟨w.heap.size, 2, none⟩ = some (.slice d.rA d.rn d.rc) ∧ w1.cell? ⟨w.heap.size, 3, none⟩ = some (.int .i64 d.arms)) from by
      intro w1 hb
      refine ⟨keep_cell hb ?_, keep_cell hb ?_, keep_cell hb ?_, keep_cell hb ?_⟩
      all_goals (rw [hw0]; simp))
  rw [HST.out]
  clear HST hd hv
  generalize spsL d ids = SL at *
  generalize spsE d ids = SE at *
  by_cases hz : SE = 0
  · subst hz
    go_enter Try.func23, Try.ntmps23
    go_wp2_with fail
    rw [← hw0]
    clear hw0
    refine (HSP.out w0 HD0.out (HV.out.then HB0.out)).mono ?_
    rintro e w1 ⟨tv, rfl, hown1, hb1⟩
    have HB1 := Lib.hid hb1
    have HIL := Lib.hid (hown1.isL (by have := HLN.out; omega))
    clear hb1 hown1
    obtain ⟨TA, tcap, rfl⟩ : ∃ A cap, tv = .slice A SL.length cap := by
      obtain ⟨⟨A, cap, h, _⟩, _⟩ := HIL.out
      exact ⟨A, cap, h⟩
    go_wp2_with fail
    go_loopw [8, 22] (fun u i wr => ∃ k : Nat, k ≤ SL.length ∧ i = .int .i64 k ∧ KI.IsL wr wr.heap.size u (foldS d (SL.take k)) ∧ Below w1.heap.size w1 wr) (fun _ i _ => SL.length - (intOf i).toNat)
    case atStart => exact ⟨0, Nat.zero_le _, rfl, Lk.IsL.nil _ _ _ _, Below.refl _ _⟩
    case round =>
      obtain ⟨k, hk, rfl, hil, hbl⟩ := hrel
      have HU := Lib.hid hil
      have HB := Lib.hid hbl
      have hln := HLN.out
      clear hil hbl
      by_cases hlt : k < SL.length
      · obtain ⟨tb, toff, rfl, htb, htc, htcell⟩ := span_cells (HIL.out.below HB.out) (by omega)
        obtain ⟨e1, e2⟩ := htcell k hlt
        obtain ⟨d0, d1, d2, d3⟩ := HF.out wr (Below.call HB1.out HB.out)
        have hsw : w.heap.size < wr.heap.size := Nat.lt_of_lt_of_le hsz0 (Below.call HB1.out HB.out).size
        have hg := HGD.out _ (getD_mem' SL k (0, 0) hlt)
        have HFS := Lib.hid (fold_snoc d SL k hlt)
        have HGK := Lib.hid (fold_good d (SL.take k) fun p hp => HGD.out p (List.mem_of_mem_take hp))
        have HLK := Lib.hid (fold_len d (SL.take k) fun p hp => HGD.out p (List.mem_of_mem_take hp))
        have hlp : lanP d (SL.getD k (0, 0)) = lanesI (frst d) (SL.getD k (0, 0)).1.toNat ((SL.getD k (0, 0)).2.toNat + 1 - (SL.getD k (0, 0)).1.toNat) := rfl
        rw [hlp] at HFS
        clear htcell hlp
        generalize SL.getD k (0, 0) = t at *
        obtain ⟨t1, t2⟩ := t
        dsimp only at *
        obtain ⟨lo, rfl⟩ : ∃ lo : Nat, t1 = (lo : Int) := ⟨t1.toNat, by omega⟩
        obtain ⟨hi, rfl⟩ : ∃ hi : Nat, t2 = (hi : Int) := ⟨t2.toNat, by omega⟩
        simp only [Int.toNat_natCast] at HFS
        obtain ⟨w5, hw5⟩ : ∃ w5, w5 = wr.alloc (.cells #[.int .i64 lo, .int .i64 hi] 30) := ⟨_, rfl⟩
        have HB5 := Lib.hid (show Below w1.heap.size w1 w5 by rw [hw5]; exact Below.al HB.out _)
        have HU5 := Lib.hid (show KI.IsL w5 w5.heap.size u8 (foldS d (SL.take k)) by rw [hw5]; exact HU.out.then (Below.al (Below.refl _ _) _))
        have HLA := Lib.hid (lanes_any d lo hi (by omega) (by omega) w5 (HD0.out.then (Below.call HB1.out HB5.out)))
        have HLI := Lib.hid (lanes_inc (frst d) lo (hi + 1 - lo))
        have HLL := Lib.hid (lanes_len (frst d) lo (hi + 1 - lo))
        generalize lanesI (frst d) lo (hi + 1 - lo) = LL at *
        generalize foldS d (SL.take k) = S at *
        go_wp2_with fail
        rw [← hw5]
        clear hw5 d0 d1 d2 d3 e1 e2
        refine HLA.out.mono ?_
        rintro e w6 ⟨lv, rfl, hown6, hb6⟩
        have HIL6 := Lib.hid (hown6.isL (by have := HLL.out; omega))
        have HU6 := Lib.hid (HU5.out.then hb6)
        have HB6 := Lib.hid (Below.call HB5.out hb6)
        clear hown6 hb6
        go_wp2_with fail
        refine (Two.either_any _ _ S LL w6 (two_of HU6.out) (two_of HIL6.out) (by have := HLL.out; have := HLK.out; omega) HGK.out.1 HLI.out).mono ?_
        rintro e w7 ⟨nv, rfl, hnv, hb7⟩
        have HN7 := Lib.hid (of_two hnv)
        have HB7 := Lib.hid (Below.call HB6.out hb7)
        clear hnv hb7
        go_wp2
        go_roundw
        case rel => exact ⟨k + 1, by omega, num_i (by omega), by rw [HFS.out]; exact HN7.out, HB7.out⟩
        case measure => simp [intOf]; omega
      · obtain rfl : k = SL.length := by omega
        rw [List.take_length] at HU
        go_wp2
        go_ret2
        exact ⟨_, rfl, HU.out, Below.call HB0.out (Below.call HB1.out HB.out)⟩
  · have hS := HE0.out hz
    subst hS
    have hz' : (SE != 0) = true := by rw [bne_iff_ne]; exact hz
    clear hz
    go_enter Try.func23, Try.ntmps23
    go_wp2_with fail
    rw [← hw0]
    clear hw0
    refine (HSP.out w0 HD0.out (HV.out.then HB0.out)).mono ?_
    rintro e w1 ⟨tv, rfl, _, hb1⟩
    have HB1 := Lib.hid hb1
    clear hb1
    go_wp2
    go_ret2
    exact ⟨_, rfl, Lk.IsL.nil _ _ _ _, Below.call HB0.out HB1.out⟩

set_option maxRecDepth 100000 in
set_option maxHeartbeats 8000000 in
theorem rneeds_any (d : Dk) (v : Value) (ids : List Int) (w : World) (hd : d.In w w.heap.size) (hv : KI.IsL w w.heap.size v ids) (hl : ids.length ≤ 1000) : Calls Try.prog 24 #[d.v, v] w fun e w' => ∃ u, e = .returned (.tuple #[u, .int .i64 (spsE d ids)]) ∧ KI.IsL w' w'.heap.size u (setV d ids) ∧ Below w.heap.size w w' := by
  have HD := Lib.hid hd
  have HSP := Lib.hid (fun w h1 h2 => rspans_any d v ids w h1 h2 hl)
  have HV := Lib.hid hv
  have HGD := Lib.hid (sps_good d hd ids)
  have HLN := Lib.hid (sps_len d ids)
  have HST := Lib.hid (show setV d ids = foldS d (spsL d ids) from rfl)
  obtain ⟨w0, hw0⟩ : ∃ w0, w0 = w.alloc (.cells #[.slice d.bA d.bn d.bc, .slice d.pA d.pn d.pc, .slice d.rA d.rn d.rc, .int .i64 d.arms] 26) := ⟨_, rfl⟩
  have HB0 := Lib.hid (show Below w.heap.size w w0 by rw [hw0]; exact Below.al (Below.refl _ _) _)
  have HD0 := Lib.hid (HD.out.then HB0.out)
  have hsz0 : w.heap.size < w0.heap.size := by rw [hw0]; simp
  have HF := Lib.hid (show ∀ w1, Below w0.heap.size w0 w1 → (w1.cell? ⟨w.heap.size, 0, none⟩ = some (.slice d.bA d.bn d.bc) ∧ w1.cell? ⟨w.heap.size, 1, none⟩ = some (.slice d.pA d.pn d.pc) ∧ w1.cell? ⟨w.heap.size, 2, none⟩ = some (.slice d.rA d.rn d.rc) ∧ w1.cell? ⟨w.heap.size, 3, none⟩ = some (.int .i64 d.arms)) from by
      intro w1 hb
      refine ⟨keep_cell hb ?_, keep_cell hb ?_, keep_cell hb ?_, keep_cell hb ?_⟩
      all_goals (rw [hw0]; simp))
  rw [HST.out]
  clear HST hd hv
  generalize spsL d ids = SL at *
  generalize spsE d ids = SE at *
  go_enter Try.func24, Try.ntmps24
  go_wp2_with fail
  rw [← hw0]
  clear hw0
  refine (HSP.out w0 HD0.out (HV.out.then HB0.out)).mono ?_
  rintro e w1 ⟨tv, rfl, hown1, hb1⟩
  have HB1 := Lib.hid hb1
  have HIL := Lib.hid (hown1.isL (by have := HLN.out; omega))
  clear hb1 hown1
  obtain ⟨TA, tcap, rfl⟩ : ∃ A cap, tv = .slice A SL.length cap := by
    obtain ⟨⟨A, cap, h, _⟩, _⟩ := HIL.out
    exact ⟨A, cap, h⟩
  go_wp2_with fail
  go_loopw [8, 9] (fun u i wr => ∃ k : Nat, k ≤ SL.length ∧ i = .int .i64 k ∧ KI.IsL wr wr.heap.size u (foldS d (SL.take k)) ∧ Below w1.heap.size w1 wr) (fun _ i _ => SL.length - (intOf i).toNat)
  case atStart => exact ⟨0, Nat.zero_le _, rfl, Lk.IsL.nil _ _ _ _, Below.refl _ _⟩
  case round =>
    obtain ⟨k, hk, rfl, hil, hbl⟩ := hrel
    have HU := Lib.hid hil
    have HB := Lib.hid hbl
    have hln := HLN.out
    clear hil hbl
    by_cases hlt : k < SL.length
    · obtain ⟨tb, toff, rfl, htb, htc, htcell⟩ := span_cells (HIL.out.below HB.out) (by omega)
      obtain ⟨e1, e2⟩ := htcell k hlt
      obtain ⟨d0, d1, d2, d3⟩ := HF.out wr (Below.call HB1.out HB.out)
      have hg := HGD.out _ (getD_mem' SL k (0, 0) hlt)
      have HFS := Lib.hid (fold_snoc d SL k hlt)
      have HLK := Lib.hid (fold_len d (SL.take k) fun p hp => HGD.out p (List.mem_of_mem_take hp))
      have HGK := Lib.hid (fold_good d (SL.take k) fun p hp => HGD.out p (List.mem_of_mem_take hp))
      have hlp : lanP d (SL.getD k (0, 0)) = lanesI (frst d) (SL.getD k (0, 0)).1.toNat ((SL.getD k (0, 0)).2.toNat + 1 - (SL.getD k (0, 0)).1.toNat) := rfl
      rw [hlp] at HFS
      clear htcell hlp
      generalize SL.getD k (0, 0) = t at *
      obtain ⟨t1, t2⟩ := t
      dsimp only at *
      obtain ⟨lo, rfl⟩ : ∃ lo : Nat, t1 = (lo : Int) := ⟨t1.toNat, by omega⟩
      obtain ⟨hi, rfl⟩ : ∃ hi : Nat, t2 = (hi : Int) := ⟨t2.toNat, by omega⟩
      simp only [Int.toNat_natCast] at HFS
      have HLA := Lib.hid (fun (V : World) (h : Below w1.heap.size w1 V) => rlanes_any d lo hi (by omega) (by omega) V (HD0.out.then (Below.call HB1.out h)))
      have HLL := Lib.hid (lanes_len (frst d) lo (hi + 1 - lo))
      generalize lanesI (frst d) lo (hi + 1 - lo) = LL at *
      generalize foldS d (SL.take k) = S at *
      have HBD := Lib.hid (show Below w1.heap.size w1 wr.drew from HB.out.drew)
      have HUD := Lib.hid (show KI.IsL wr.drew wr.drew.heap.size u8 S from HU.out.drewN 1)
      go_wp2_with fail
      refine wp_region_held_drew (S := fun w' => w'.cell? ⟨w.heap.size, 0, none⟩ = some (.slice d.bA d.bn d.bc) ∧ w'.cell? ⟨w.heap.size, 1, none⟩ = some (.slice d.pA d.pn d.pc) ∧ w'.cell? ⟨w.heap.size, 2, none⟩ = some (.slice d.rA d.rn d.rc) ∧ w'.cell? ⟨w.heap.size, 3, none⟩ = some (.int .i64 d.arms) ∧ w'.cell? ⟨tb, toff + k * 2, none⟩ = some (.int .i64 lo) ∧ w'.cell? ⟨tb, toff + k * 2 + 1, none⟩ = some (.int .i64 hi)) (by kernel_rfl) ?_ (fun hHeld => ?_)
      · exact ⟨d0, d1, d2, d3, e1, e2⟩
      refine wpAnyH_take (i := 0) (oi := ⟨some 22, _, _, _, _, _⟩) (v := ?_) rfl (by kernel_rfl) (by kernel_rfl) (by kernel_rfl) (fun _ _ _ h => h) (Or.inl ⟨by kernel_rfl, ?_⟩) (by assumption) ?_
      rotate_left 1
      · ((intro w hSw; (try dsimp only at hSw); go_simp) <;> (try with_reducible rfl))
      (try simp only [Act.put, List.setIfInBounds_toArray, List.set_cons_zero, List.set_cons_succ])
      refine wpAnyH_take (i := 1) (oi := ⟨some 23, _, _, _, _, _⟩) (v := ?_) rfl (by kernel_rfl) (by kernel_rfl) (by kernel_rfl) (fun _ _ _ h => h) (Or.inl ⟨by kernel_rfl, ?_⟩) (by assumption) ?_
      rotate_left 1
      · ((intro w hSw; (try dsimp only at hSw); go_simp) <;> (try with_reducible rfl))
      (try simp only [Act.put, List.setIfInBounds_toArray, List.set_cons_zero, List.set_cons_succ])
      refine wpAnyH_take (i := 2) (oi := ⟨some 24, _, _, _, _, _⟩) (v := ?_) rfl (by kernel_rfl) (by kernel_rfl) (by kernel_rfl) (fun _ _ _ h => h) (Or.inl ⟨by kernel_rfl, ?_⟩) (by assumption) ?_
      rotate_left 1
      · ((intro w hSw; (try dsimp only at hSw); go_simp) <;> (try with_reducible rfl))
      (try simp only [Act.put, List.setIfInBounds_toArray, List.set_cons_zero, List.set_cons_succ])
      refine wpAnyH_take (i := 3) (oi := ⟨some 25, _, _, _, _, _⟩) (v := ?_) rfl (by kernel_rfl) (by kernel_rfl) (by kernel_rfl) (fun _ _ _ h => h) (Or.inl ⟨by kernel_rfl, ?_⟩) (by assumption) ?_
      rotate_left 1
      · ((intro w hSw; (try dsimp only at hSw); go_simp) <;> (try with_reducible rfl))
      (try simp only [Act.put, List.setIfInBounds_toArray, List.set_cons_zero, List.set_cons_succ])
      refine wpAnyH_take (i := 4) (oi := ⟨some 26, _, _, _, _, _⟩) (v := ?_) rfl (by kernel_rfl) (by kernel_rfl) (by kernel_rfl) (fun _ _ _ h => h) (Or.inl ⟨by kernel_rfl, ?_⟩) (by assumption) ?_
      rotate_left 1
      · ((intro w hSw; (try dsimp only at hSw); go_simp) <;> (try with_reducible rfl))
      (try simp only [Act.put, List.setIfInBounds_toArray, List.set_cons_zero, List.set_cons_succ])
      refine wpAnyH_take (i := 5) (oi := ⟨some 27, _, _, _, _, _⟩) (v := ?_) rfl (by kernel_rfl) (by kernel_rfl) (by kernel_rfl) (fun _ _ _ h => h) (Or.inl ⟨by kernel_rfl, ?_⟩) (by assumption) ?_
      rotate_left 1
      · ((intro w hSw; (try dsimp only at hSw); go_simp) <;> (try with_reducible rfl))
      (try simp only [Act.put, List.setIfInBounds_toArray, List.set_cons_zero, List.set_cons_succ])
      clear d0 d1 d2 d3 e1 e2
      refine wpAnyH_ready (rs := [6]) (by kernel_rfl) (by simp) ?_
      refine AllReadyH.cons (o := ⟨some 28, _, _, _, _, _⟩) rfl (fun K hK => ?_) AllReadyH.nil
      go_simp
      refine (HLA.out _ HBD.out).mono ?_
      rintro e w6 ⟨lv, rfl, hown6, hb⟩
      have HIL6 := Lib.hid (hown6.isL (by have := HLL.out; omega))
      have HU6 := Lib.hid (HUD.out.then hb)
      have HB6 := Lib.hid (Below.call HBD.out hb)
      clear hown6
      go_wp2_with fail
      refine hK.out _ _ ?_ (fun hHeld => ?_)
      · exact ⟨keep_cell hb hHeld.1, keep_cell hb hHeld.2.1, keep_cell hb hHeld.2.2.1, keep_cell hb hHeld.2.2.2.1, keep_cell hb hHeld.2.2.2.2.1, keep_cell hb hHeld.2.2.2.2.2⟩
      clear hK K hb
      (try simp only [Act.put, List.setIfInBounds_toArray, List.set_cons_zero, List.set_cons_succ])
      refine wpAnyH_ready (rs := [7]) (by kernel_rfl) (by simp) ?_
      refine AllReadyH.cons (o := ⟨some 29, _, _, _, _, _⟩) rfl (fun K hK => ?_) AllReadyH.nil
      go_simp
      refine (Two.reither_any _ _ S LL w6 (two_of HU6.out) (two_of HIL6.out) (by have := HLL.out; have := HLK.out; omega) HGK.out.1).mono ?_
      rintro e w7 ⟨nv, rfl, hnv, hb⟩
      have HN7 := Lib.hid (of_two hnv)
      have HB7 := Lib.hid (Below.call HB6.out hb)
      clear hnv
      go_wp2_with fail
      refine hK.out _ _ ?_ (fun hHeld => ?_)
      · exact ⟨keep_cell hb hHeld.1, keep_cell hb hHeld.2.1, keep_cell hb hHeld.2.2.1, keep_cell hb hHeld.2.2.2.1, keep_cell hb hHeld.2.2.2.2.1, keep_cell hb hHeld.2.2.2.2.2⟩
      clear hK K hb
      (try simp only [Act.put, List.setIfInBounds_toArray, List.set_cons_zero, List.set_cons_succ])
      refine wpAnyH_take (i := 8) (oi := ⟨some 8, _, _, _, _, _⟩) (v := ?_) rfl (by kernel_rfl) (by kernel_rfl) (by kernel_rfl) (fun _ _ _ h => h) (Or.inl ⟨by kernel_rfl, ?_⟩) (by assumption) ?_
      rotate_left 1
      · ((intro w hSw; (try dsimp only at hSw); go_simp) <;> (try with_reducible rfl))
      (try simp only [Act.put, List.setIfInBounds_toArray, List.set_cons_zero, List.set_cons_succ])
      refine wpAnyH_done (by kernel_rfl) ?_ _
      go_wp2
      go_roundw
      case rel => exact ⟨k + 1, by omega, num_i (by omega), by rw [HFS.out]; exact HN7.out, HB7.out⟩
      case measure => simp [intOf]; omega
    · obtain rfl : k = SL.length := by omega
      rw [List.take_length] at HU
      go_wp2
      go_ret2
      exact ⟨_, rfl, HU.out, Below.call HB0.out (Below.call HB1.out HB.out)⟩
end Go.Proofs.Ytlgpnjbhmoomfaa
