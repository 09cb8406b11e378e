/- Histories: what must come of every program. -/
import Derived.Test.YtbfklpopodmalaaHT
namespace Go.Proofs.Ytbfklpopodmalaa
open Go.RowKit Go.Maps
theorem alloc_at (w : World) (cs : Array Value) (t : TypeId) (o : Nat) : (w.alloc (.cells cs t)).cell? ⟨w.heap.size, o, none⟩ = cs[o]? := by
  unfold World.cell?
  rw [heap_alloc_new]
  rfl
/-- A literal list, laid in a new block. -/
theorem Lk.IsL.lits {P : Program} {α : Type} {K : Lk P α} (w : World) (xs : List α) (cs : Array Value) (hx : ∀ x ∈ xs, K.ok x) (hcs : cs = (K.flat xs).toArray) (hl : xs.length ≤ 9223372036854775807) (H : Nat) (e : w.heap.size = H) :
    K.IsL (w.alloc (.cells cs K.E)) (H + 1) (.slice (some ⟨H, 0, none⟩) xs.length xs.length) xs := by
  subst e
  subst hcs
  refine ⟨⟨_, _, rfl, Nat.le_refl _, fun _ => ⟨_, _, rfl, Nat.lt_succ_self _, fun i hi j u hu => ?_⟩⟩, hx, hl⟩
  have hj : j < K.n := by
    have := (List.getElem?_eq_some_iff.1 hu).1
    rw [K.len] at this
    exact this
  rw [Nat.zero_add, alloc_at, List.getElem?_toArray, K.flat_at xs i j hi hj, hu]
theorem okL (l : List (Int × Int)) (h : l.all (fun c => decide (-9223372036854775808 ≤ c.1 ∧ c.1 ≤ 9223372036854775807 ∧ -9223372036854775808 ≤ c.2 ∧ c.2 ≤ 9223372036854775807)) = true) : ∀ x ∈ l, KC.ok x := fun x hx => by
  have := of_decide_eq_true (List.all_eq_true.1 h x hx)
  exact ⟨by unfold fits; omega, by unfold fits; omega⟩
theorem okEv : ∀ x ∈ hx, KE.ok x := fun x hx' => by
  simp only [hx, List.mem_cons, List.not_mem_nil, or_false] at hx'
  rcases hx' with rfl | rfl | rfl | rfl | rfl | rfl <;> exact ⟨by unfold fits; dsimp only; omega, by unfold fits; dsimp only; omega, by unfold fits; dsimp only; omega, by unfold fits; dsimp only; omega⟩
theorem KC.one1 {w : World} {base : Nat} {v : Value} (h : KC.Own w base v [(1, 1)]) : ∃ g cap, v = .slice (some ⟨g, 0, none⟩) 1 cap ∧ True := by
  obtain ⟨g, cap, rfl, _, _, _⟩ := h.shape (by simp)
  exact ⟨g, cap, rfl, trivial⟩
theorem KE.cut {w : World} {B b c : Nat} {xs : List Ev} (k : Nat) (h : KE.IsL w B (.slice (some ⟨b, 0, none⟩) xs.length c) xs) (hk : k ≤ xs.length) : KE.IsL w B (.slice (some ⟨b, 0, none⟩) k c) (xs.take k) := by
  obtain ⟨⟨A, cap, hv, hc, hA⟩, hf, hl⟩ := h
  simp only [Value.slice.injEq] at hv
  obtain ⟨rfl, _, rfl⟩ := hv
  refine ⟨⟨_, _, by rw [List.length_take, Nat.min_eq_left hk], by rw [List.length_take]; omega, fun h0 => ?_⟩, fun x hx => hf x (List.mem_of_mem_take hx), by rw [List.length_take]; omega⟩
  rw [List.length_take] at h0
  obtain ⟨b', off, e, hb, hcell⟩ := hA (by omega)
  refine ⟨b', off, e, hb, fun i hi j u hu => ?_⟩
  rw [List.length_take] at hi
  refine hcell i (by omega) j u ?_
  rw [List.getD_eq_getElem?_getD, List.getElem?_take, if_pos (by omega), ← List.getD_eq_getElem?_getD] at hu
  exact hu
set_option maxRecDepth 100000 in
set_option maxHeartbeats 4000000 in

theorem lives19 (w : World) : Calls Try.prog 6 #[] w fun e w' => e = .returned (.bool true) ∧ Below w.heap.size w w' := by
  obtain ⟨w0, hw0⟩ : ∃ w0, w0 = ((w.alloc (.cells #[.int .i64 1, .int .i64 1, .int .i64 1, .int .i64 1, .int .i64 1, .int .i64 2, .int .i64 1, .int .i64 2, .int .i64 2, .int .i64 2, .int .i64 1, .int .i64 3, .int .i64 3, .int .i64 2, .int .i64 1, .int .i64 4, .int .i64 2, .int .i64 1, .int .i64 1, .int .i64 5, .int .i64 3, .int .i64 1, .int .i64 1, .int .i64 6] 35)).alloc (.cells #[.int .i64 1, .int .i64 1] 31)).alloc (.cells #[.int .i64 2, .int .i64 1] 31) := ⟨_, rfl⟩
  have HB0 := Lib.hid (show Below w.heap.size w w0 by rw [hw0]; exact Below.al (Below.al (Below.al (Below.refl _ _) _) _) _)
  have a0 : w0.cell? ⟨w.heap.size + 1, 0, none⟩ = some (.int .i64 1) := by rw [hw0]; simp [go_sem]
  have a1 : w0.cell? ⟨w.heap.size + 1, 1, none⟩ = some (.int .i64 1) := by rw [hw0]; simp [go_sem]
  have b0 : w0.cell? ⟨w.heap.size + 1 + 1, 0, none⟩ = some (.int .i64 2) := by rw [hw0]; simp [go_sem]
  have b1 : w0.cell? ⟨w.heap.size + 1 + 1, 1, none⟩ = some (.int .i64 1) := by rw [hw0]; simp [go_sem]
  have HH := Lib.hid (show KE.IsL w0 w0.heap.size (.slice (some ⟨w.heap.size, 0, none⟩) 6 6) hx by
    have h1 := Lk.IsL.lits (K := KE) w hx #[.int .i64 1, .int .i64 1, .int .i64 1, .int .i64 1, .int .i64 1, .int .i64 2, .int .i64 1, .int .i64 2, .int .i64 2, .int .i64 2, .int .i64 1, .int .i64 3, .int .i64 3, .int .i64 2, .int .i64 1, .int .i64 4, .int .i64 2, .int .i64 1, .int .i64 1, .int .i64 5, .int .i64 3, .int .i64 1, .int .i64 1, .int .i64 6] okEv rfl (by decide) w.heap.size rfl
    rw [show w.heap.size + 1 = (w.alloc (.cells #[.int .i64 1, .int .i64 1, .int .i64 1, .int .i64 1, .int .i64 1, .int .i64 2, .int .i64 1, .int .i64 2, .int .i64 2, .int .i64 2, .int .i64 1, .int .i64 3, .int .i64 3, .int .i64 2, .int .i64 1, .int .i64 4, .int .i64 2, .int .i64 1, .int .i64 1, .int .i64 5, .int .i64 3, .int .i64 1, .int .i64 1, .int .i64 6] 35)).heap.size by simp] at h1
    have h2 := (h1.then (Below.al (Below.refl _ _) (.cells #[.int .i64 1, .int .i64 1] 31))).then (Below.al (Below.refl _ _) (.cells #[.int .i64 2, .int .i64 1] 31))
    rw [hw0]
    exact h2)
  have A0 := Lib.hid a0
  have A1 := Lib.hid a1
  have B0 := Lib.hid b0
  have B1 := Lib.hid b1
  clear a0 a1 b0 b1
  go_enter Try.func6, Try.ntmps6
  go_upto_region 3 with fail
  rw [← hw0]
  clear hw0
  go_wp2_with fail
  refine (done_any _ hx w0 HH.out (by decide)).mono ?_
  rintro e k1 ⟨vd, rfl, ho, hb⟩
  rw [show allE hx 2 = [(2, 1), (1, 1)] by decide +kernel] at ho
  have HB1 := Lib.hid hb
  have LD := Lib.hid (ho.isL (by decide))
  have HH1 := Lib.hid (HH.out.then hb)
  clear ho hb
  obtain ⟨AD, cd, rfl, hcd⟩ := LD.out.shape
  go_wp2_with fail
  refine (told_any _ hx k1 HH1.out (by decide)).mono ?_
  rintro e k2 ⟨vt, rfl, ho, hb⟩
  rw [show allE hx 3 = [(2, 1), (1, 1)] by decide +kernel] at ho
  have HB2 := Lib.hid (Below.call HB1.out hb)
  have LT := Lib.hid (ho.isL (by decide))
  have LD2 := Lib.hid (LD.out.then hb)
  have HH2 := Lib.hid (HH1.out.then hb)
  clear ho hb LD HH1
  obtain ⟨AT, ct, rfl, hct⟩ := LT.out.shape
  obtain ⟨bd, od, rfl, -, -, hcell⟩ := cl_cells LD2.out (by decide)
  obtain ⟨d0, d1⟩ := hcell 0 (by decide)
  simp only [List.getD_cons_zero, Nat.zero_mul, Nat.add_zero] at d0 d1
  clear hcell LD2 LT
  have a0 := keep_cell HB2.out A0.out
  have a1 := keep_cell HB2.out A1.out
  have b0 := keep_cell HB2.out B0.out
  have b1 := keep_cell HB2.out B1.out
  simp only [List.length_cons, List.length_nil, Nat.zero_add, Nat.reduceAdd] at hcd hct ⊢
  have HRI := Lib.hid (fun V (hb : Below k2.heap.size k2 V) => right_any _ hx V (HH2.out.then hb) (by decide))
  rw [show rgB hx = true by decide +kernel] at HRI
  have HF1 := Lib.hid (fun V (hb : Below k2.heap.size k2 V) v2 h2 => fits_any _ v2 hx [(1, 1), (2, 1)] V (HH2.out.then hb) h2 (by decide) (by decide))
  rw [show fitB hx [(1, 1), (2, 1)] = true by decide +kernel] at HF1
  have HF2 := Lib.hid (fun V (hb : Below k2.heap.size k2 V) v2 h2 => fits_any _ v2 hx [(2, 1), (1, 1)] V (HH2.out.then hb) h2 (by decide) (by decide))
  rw [show fitB hx [(2, 1), (1, 1)] = true by decide +kernel] at HF2
  have HF3 := Lib.hid (fun V (hb : Below k2.heap.size k2 V) v2 h2 => fits_any _ v2 hx [(1, 1)] V (HH2.out.then hb) h2 (by decide) (by decide))
  rw [show fitB hx [(1, 1)] = false by decide +kernel] at HF3
  have HMX := Lib.hid (fun V (hb : Below k2.heap.size k2 V) => mixed_hx _ V (HH2.out.then hb))
  have HOP := Lib.hid (fun V (hb : Below k2.heap.size k2 V) => popen_any (.slice (some ⟨w.heap.size, 0, none⟩) 4 6) (hx.take 4) V (KE.cut 4 (HH2.out.then hb) (by decide)) (by decide))
  rw [show opE (hx.take 4) = [(1, 1)] by decide +kernel] at HOP
  have HBE := Lib.hid (fun V (hb : Below k2.heap.size k2 V) => before_any _ hx 1 1 2 1 V (HH2.out.then hb))
  rw [show befB hx (1, 1) (2, 1) = false by decide +kernel] at HBE
  have HBW := Lib.hid (Below.call HB0.out HB2.out)
  clear A0 A1 B0 B1 HH HH2 HB1 HB2 HB0
  go_wp2_with fail
  refine wp_region_held_drew (S := fun w' => w'.cell? ⟨w.heap.size + 1, 0, none⟩ = some (.int .i64 1) ∧ w'.cell? ⟨w.heap.size + 1, 1, none⟩ = some (.int .i64 1) ∧ w'.cell? ⟨w.heap.size + 1 + 1, 0, none⟩ = some (.int .i64 2) ∧ w'.cell? ⟨w.heap.size + 1 + 1, 1, none⟩ = some (.int .i64 1) ∧ w'.cell? ⟨bd, od, none⟩ = some (.int .i64 2) ∧ w'.cell? ⟨bd, od + 1, none⟩ = some (.int .i64 1)) (by kernel_rfl) ?_ (fun hHeld => ?_)
  · exact ⟨a0, a1, b0, b1, d0, d1⟩
  have HBr := Lib.hid (show Below k2.heap.size k2 k2.drew from below_drewN (Below.refl _ _) 1)
  clear a0 a1 b0 b1 d0 d1
  generalize k2.drew = wv at *
  refine wpAnyH_take (i := 0) (oi := ⟨some 19, _, _, _, _, _⟩) (v := ?_) rfl (by kernel_rfl) (by kernel_rfl) (by kernel_rfl) (fun _ _ _ h => h) (Or.inl ⟨by kernel_rfl, ?_⟩) (by assumption) ?_
  rotate_left 1
  · ((intro w hSw; (try dsimp only at hSw); go_simp) <;> (try with_reducible rfl))
  (try simp only [Act.put, List.setIfInBounds_toArray, List.set_cons_zero, List.set_cons_succ])
  refine wpAnyH_ready (rs := [1]) (by kernel_rfl) (by simp) ?_
  refine AllReadyH.cons (o := ⟨some 20, _, _, _, _, _⟩) rfl (fun K hK => ?_) AllReadyH.nil
  go_simp
  (with_reducible refine (HRI.out _ HBr.out).mono ?_)
  rintro e wv ⟨rfl, hb⟩
  obtain ⟨s0, s1, s2, s3, s4, s5⟩ := hHeld
  have HBr := Lib.hid (Below.call HBr.out hb)
  replace s0 := keep_cell hb s0
  replace s1 := keep_cell hb s1
  replace s2 := keep_cell hb s2
  replace s3 := keep_cell hb s3
  replace s4 := keep_cell hb s4
  replace s5 := keep_cell hb s5
  clear hb
  go_wp2_with fail
  refine hK.out _ _ ⟨s0, s1, s2, s3, s4, s5⟩ (fun hHeld => ?_)
  clear hK K s0 s1 s2 s3 s4 s5
  (try simp only [Act.put, List.setIfInBounds_toArray, List.set_cons_zero, List.set_cons_succ])
  refine wpAnyH_take (i := 2) (oi := ⟨some 21, _, _, _, _, _⟩) (v := ?_) rfl (by kernel_rfl) (by kernel_rfl) (by kernel_rfl) (fun _ _ _ h => h) (Or.inl ⟨by kernel_rfl, ?_⟩) (by assumption) ?_
  rotate_left 1
  · ((intro w hSw; (try dsimp only at hSw); go_simp) <;> (try with_reducible rfl))
  (try simp only [Act.put, List.setIfInBounds_toArray, List.set_cons_zero, List.set_cons_succ])
  refine wpAnyH_take (i := 3) (oi := ⟨some 22, _, _, _, _, _⟩) (v := ?_) rfl (by kernel_rfl) (by kernel_rfl) (by kernel_rfl) (fun _ _ _ h => h) (Or.inl ⟨by kernel_rfl, ?_⟩) (by assumption) ?_
  rotate_left 1
  · ((intro w hSw; (try dsimp only at hSw); go_simp) <;> (try with_reducible rfl))
  (try simp only [Act.put, List.setIfInBounds_toArray, List.set_cons_zero, List.set_cons_succ])
  refine wpAnyH_take (i := 4) (oi := ⟨some 23, _, _, _, _, _⟩) (v := ?_) rfl (by kernel_rfl) (by kernel_rfl) (by kernel_rfl) (fun _ _ _ h => h) (Or.inl ⟨by kernel_rfl, ?_⟩) (by assumption) ?_
  rotate_left 1
  · ((intro w hSw; (try dsimp only at hSw); go_simp) <;> (try with_reducible rfl))
  (try simp only [Act.put, List.setIfInBounds_toArray, List.set_cons_zero, List.set_cons_succ])
  refine wpAnyH_take (i := 5) (oi := ⟨some 24, _, _, _, _, _⟩) (v := ?_) rfl (by kernel_rfl) (by kernel_rfl) (by kernel_rfl) (fun _ _ _ h => h) (Or.inl ⟨by kernel_rfl, ?_⟩) (by assumption) ?_
  rotate_left 1
  · ((intro w hSw; (try dsimp only at hSw); go_simp) <;> (try with_reducible rfl))
  (try simp only [Act.put, List.setIfInBounds_toArray, List.set_cons_zero, List.set_cons_succ])
  refine wpAnyH_ready (rs := [6]) (by kernel_rfl) (by simp) ?_
  refine AllReadyH.cons (o := ⟨some 25, _, _, _, _, _⟩) rfl (fun K hK => ?_) AllReadyH.nil
  go_simp
  obtain ⟨wn, hwn⟩ : ∃ wn, wn = wv.alloc (.cells #[.int .i64 1, .int .i64 1, .int .i64 2, .int .i64 1] 31) := ⟨_, rfl⟩
  have hb : Below wv.heap.size wv wn := by rw [hwn]; exact Below.al (Below.refl _ _) _
  have LA := Lib.hid (show KC.IsL wn wn.heap.size (.slice (some ⟨wv.heap.size, 0, none⟩) 2 2) [(1, 1), (2, 1)] by
    rw [hwn, show (wv.alloc (.cells #[.int .i64 1, .int .i64 1, .int .i64 2, .int .i64 1] 31)).heap.size = wv.heap.size + 1 by simp]
    exact Lk.IsL.lits (K := KC) wv [(1, 1), (2, 1)] #[.int .i64 1, .int .i64 1, .int .i64 2, .int .i64 1] (okL _ (by decide)) rfl (by decide) wv.heap.size rfl)
  obtain ⟨s0, s1, s2, s3, s4, s5⟩ := hHeld
  replace s0 := keep_cell hb s0
  replace s1 := keep_cell hb s1
  replace s2 := keep_cell hb s2
  replace s3 := keep_cell hb s3
  replace s4 := keep_cell hb s4
  replace s5 := keep_cell hb s5
  have HBr := Lib.hid (Below.call HBr.out hb)
  rw [← hwn]
  obtain ⟨gb, hgb⟩ : ∃ gb, wv.heap.size = gb := ⟨_, rfl⟩
  rw [hgb] at LA ⊢
  clear hgb hwn hb
  refine hK.out _ _ ⟨s0, s1, s2, s3, s4, s5⟩ (fun hHeld => ?_)
  clear hK K s0 s1 s2 s3 s4 s5
  (try simp only [Act.put, List.setIfInBounds_toArray, List.set_cons_zero, List.set_cons_succ])
  refine wpAnyH_ready (rs := [7]) (by kernel_rfl) (by simp) ?_
  refine AllReadyH.cons (o := ⟨some 26, _, _, _, _, _⟩) rfl (fun K hK => ?_) AllReadyH.nil
  go_simp
  (with_reducible refine (HF1.out _ HBr.out _ LA.out).mono ?_)
  rintro e wv ⟨rfl, hb⟩
  obtain ⟨s0, s1, s2, s3, s4, s5⟩ := hHeld
  have HBr := Lib.hid (Below.call HBr.out hb)
  replace s0 := keep_cell hb s0
  replace s1 := keep_cell hb s1
  replace s2 := keep_cell hb s2
  replace s3 := keep_cell hb s3
  replace s4 := keep_cell hb s4
  replace s5 := keep_cell hb s5
  clear hb LA
  go_wp2_with fail
  refine hK.out _ _ ⟨s0, s1, s2, s3, s4, s5⟩ (fun hHeld => ?_)
  clear hK K s0 s1 s2 s3 s4 s5
  (try simp only [Act.put, List.setIfInBounds_toArray, List.set_cons_zero, List.set_cons_succ])
  refine wpAnyH_take (i := 8) (oi := ⟨some 27, _, _, _, _, _⟩) (v := ?_) rfl (by kernel_rfl) (by kernel_rfl) (by kernel_rfl) (fun _ _ _ h => h) (Or.inl ⟨by kernel_rfl, ?_⟩) (by assumption) ?_
  rotate_left 1
  · ((intro w hSw; (try dsimp only at hSw); go_simp) <;> (try with_reducible rfl))
  (try simp only [Act.put, List.setIfInBounds_toArray, List.set_cons_zero, List.set_cons_succ])
  refine wpAnyH_take (i := 9) (oi := ⟨some 28, _, _, _, _, _⟩) (v := ?_) rfl (by kernel_rfl) (by kernel_rfl) (by kernel_rfl) (fun _ _ _ h => h) (Or.inl ⟨by kernel_rfl, ?_⟩) (by assumption) ?_
  rotate_left 1
  · ((intro w hSw; (try dsimp only at hSw); go_simp) <;> (try with_reducible rfl))
  (try simp only [Act.put, List.setIfInBounds_toArray, List.set_cons_zero, List.set_cons_succ])
  refine wpAnyH_take (i := 10) (oi := ⟨some 29, _, _, _, _, _⟩) (v := ?_) rfl (by kernel_rfl) (by kernel_rfl) (by kernel_rfl) (fun _ _ _ h => h) (Or.inl ⟨by kernel_rfl, ?_⟩) (by assumption) ?_
  rotate_left 1
  · ((intro w hSw; (try dsimp only at hSw); go_simp) <;> (try with_reducible rfl))
  (try simp only [Act.put, List.setIfInBounds_toArray, List.set_cons_zero, List.set_cons_succ])
  refine wpAnyH_take (i := 11) (oi := ⟨some 30, _, _, _, _, _⟩) (v := ?_) rfl (by kernel_rfl) (by kernel_rfl) (by kernel_rfl) (fun _ _ _ h => h) (Or.inl ⟨by kernel_rfl, ?_⟩) (by assumption) ?_
  rotate_left 1
  · ((intro w hSw; (try dsimp only at hSw); go_simp) <;> (try with_reducible rfl))
  (try simp only [Act.put, List.setIfInBounds_toArray, List.set_cons_zero, List.set_cons_succ])
  refine wpAnyH_take (i := 12) (oi := ⟨some 31, _, _, _, _, _⟩) (v := ?_) rfl (by kernel_rfl) (by kernel_rfl) (by kernel_rfl) (fun _ _ _ h => h) (Or.inl ⟨by kernel_rfl, ?_⟩) (by assumption) ?_
  rotate_left 1
  · ((intro w hSw; (try dsimp only at hSw); go_simp) <;> (try with_reducible rfl))
  (try simp only [Act.put, List.setIfInBounds_toArray, List.set_cons_zero, List.set_cons_succ])
  refine wpAnyH_ready (rs := [13]) (by kernel_rfl) (by simp) ?_
  refine AllReadyH.cons (o := ⟨some 32, _, _, _, _, _⟩) rfl (fun K hK => ?_) AllReadyH.nil
  go_simp
  obtain ⟨wn, hwn⟩ : ∃ wn, wn = wv.alloc (.cells #[.int .i64 2, .int .i64 1, .int .i64 1, .int .i64 1] 31) := ⟨_, rfl⟩
  have hb : Below wv.heap.size wv wn := by rw [hwn]; exact Below.al (Below.refl _ _) _
  have LA := Lib.hid (show KC.IsL wn wn.heap.size (.slice (some ⟨wv.heap.size, 0, none⟩) 2 2) [(2, 1), (1, 1)] by
    rw [hwn, show (wv.alloc (.cells #[.int .i64 2, .int .i64 1, .int .i64 1, .int .i64 1] 31)).heap.size = wv.heap.size + 1 by simp]
    exact Lk.IsL.lits (K := KC) wv [(2, 1), (1, 1)] #[.int .i64 2, .int .i64 1, .int .i64 1, .int .i64 1] (okL _ (by decide)) rfl (by decide) wv.heap.size rfl)
  obtain ⟨s0, s1, s2, s3, s4, s5⟩ := hHeld
  replace s0 := keep_cell hb s0
  replace s1 := keep_cell hb s1
  replace s2 := keep_cell hb s2
  replace s3 := keep_cell hb s3
  replace s4 := keep_cell hb s4
  replace s5 := keep_cell hb s5
  have HBr := Lib.hid (Below.call HBr.out hb)
  rw [← hwn]
  obtain ⟨gb, hgb⟩ : ∃ gb, wv.heap.size = gb := ⟨_, rfl⟩
  rw [hgb] at LA ⊢
  clear hgb hwn hb
  refine hK.out _ _ ⟨s0, s1, s2, s3, s4, s5⟩ (fun hHeld => ?_)
  clear hK K s0 s1 s2 s3 s4 s5
  (try simp only [Act.put, List.setIfInBounds_toArray, List.set_cons_zero, List.set_cons_succ])
  refine wpAnyH_ready (rs := [14]) (by kernel_rfl) (by simp) ?_
  refine AllReadyH.cons (o := ⟨some 33, _, _, _, _, _⟩) rfl (fun K hK => ?_) AllReadyH.nil
  go_simp
  (with_reducible refine (HF2.out _ HBr.out _ LA.out).mono ?_)
  rintro e wv ⟨rfl, hb⟩
  obtain ⟨s0, s1, s2, s3, s4, s5⟩ := hHeld
  have HBr := Lib.hid (Below.call HBr.out hb)
  replace s0 := keep_cell hb s0
  replace s1 := keep_cell hb s1
  replace s2 := keep_cell hb s2
  replace s3 := keep_cell hb s3
  replace s4 := keep_cell hb s4
  replace s5 := keep_cell hb s5
  clear hb LA
  go_wp2_with fail
  refine hK.out _ _ ⟨s0, s1, s2, s3, s4, s5⟩ (fun hHeld => ?_)
  clear hK K s0 s1 s2 s3 s4 s5
  (try simp only [Act.put, List.setIfInBounds_toArray, List.set_cons_zero, List.set_cons_succ])
  refine wpAnyH_take (i := 15) (oi := ⟨some 34, _, _, _, _, _⟩) (v := ?_) rfl (by kernel_rfl) (by kernel_rfl) (by kernel_rfl) (fun _ _ _ h => h) (Or.inl ⟨by kernel_rfl, ?_⟩) (by assumption) ?_
  rotate_left 1
  · ((intro w hSw; (try dsimp only at hSw); go_simp) <;> (try with_reducible rfl))
  (try simp only [Act.put, List.setIfInBounds_toArray, List.set_cons_zero, List.set_cons_succ])
  refine wpAnyH_take (i := 16) (oi := ⟨some 35, _, _, _, _, _⟩) (v := ?_) rfl (by kernel_rfl) (by kernel_rfl) (by kernel_rfl) (fun _ _ _ h => h) (Or.inl ⟨by kernel_rfl, ?_⟩) (by assumption) ?_
  rotate_left 1
  · ((intro w hSw; (try dsimp only at hSw); go_simp) <;> (try with_reducible rfl))
  (try simp only [Act.put, List.setIfInBounds_toArray, List.set_cons_zero, List.set_cons_succ])
  refine wpAnyH_take (i := 17) (oi := ⟨some 36, _, _, _, _, _⟩) (v := ?_) rfl (by kernel_rfl) (by kernel_rfl) (by kernel_rfl) (fun _ _ _ h => h) (Or.inl ⟨by kernel_rfl, ?_⟩) (by assumption) ?_
  rotate_left 1
  · ((intro w hSw; (try dsimp only at hSw); go_simp) <;> (try with_reducible rfl))
  (try simp only [Act.put, List.setIfInBounds_toArray, List.set_cons_zero, List.set_cons_succ])
  refine wpAnyH_take (i := 18) (oi := ⟨some 37, _, _, _, _, _⟩) (v := ?_) rfl (by kernel_rfl) (by kernel_rfl) (by kernel_rfl) (fun _ _ _ h => h) (Or.inl ⟨by kernel_rfl, ?_⟩) (by assumption) ?_
  rotate_left 1
  · ((intro w hSw; (try dsimp only at hSw); go_simp) <;> (try with_reducible rfl))
  (try simp only [Act.put, List.setIfInBounds_toArray, List.set_cons_zero, List.set_cons_succ])
  refine wpAnyH_ready (rs := [19]) (by kernel_rfl) (by simp) ?_
  refine AllReadyH.cons (o := ⟨some 38, _, _, _, _, _⟩) rfl (fun K hK => ?_) AllReadyH.nil
  go_simp
  obtain ⟨wn, hwn⟩ : ∃ wn, wn = wv.alloc (.cells #[.int .i64 1, .int .i64 1] 31) := ⟨_, rfl⟩
  have hb : Below wv.heap.size wv wn := by rw [hwn]; exact Below.al (Below.refl _ _) _
  have LA := Lib.hid (show KC.IsL wn wn.heap.size (.slice (some ⟨wv.heap.size, 0, none⟩) 1 1) [(1, 1)] by
    rw [hwn, show (wv.alloc (.cells #[.int .i64 1, .int .i64 1] 31)).heap.size = wv.heap.size + 1 by simp]
    exact Lk.IsL.lits (K := KC) wv [(1, 1)] #[.int .i64 1, .int .i64 1] (okL _ (by decide)) rfl (by decide) wv.heap.size rfl)
  obtain ⟨s0, s1, s2, s3, s4, s5⟩ := hHeld
  replace s0 := keep_cell hb s0
  replace s1 := keep_cell hb s1
  replace s2 := keep_cell hb s2
  replace s3 := keep_cell hb s3
  replace s4 := keep_cell hb s4
  replace s5 := keep_cell hb s5
  have HBr := Lib.hid (Below.call HBr.out hb)
  rw [← hwn]
  obtain ⟨gb, hgb⟩ : ∃ gb, wv.heap.size = gb := ⟨_, rfl⟩
  rw [hgb] at LA ⊢
  clear hgb hwn hb
  refine hK.out _ _ ⟨s0, s1, s2, s3, s4, s5⟩ (fun hHeld => ?_)
  clear hK K s0 s1 s2 s3 s4 s5
  (try simp only [Act.put, List.setIfInBounds_toArray, List.set_cons_zero, List.set_cons_succ])
  refine wpAnyH_ready (rs := [20]) (by kernel_rfl) (by simp) ?_
  refine AllReadyH.cons (o := ⟨some 39, _, _, _, _, _⟩) rfl (fun K hK => ?_) AllReadyH.nil
  go_simp
  (with_reducible refine (HF3.out _ HBr.out _ LA.out).mono ?_)
  rintro e wv ⟨rfl, hb⟩
  obtain ⟨s0, s1, s2, s3, s4, s5⟩ := hHeld
  have HBr := Lib.hid (Below.call HBr.out hb)
  replace s0 := keep_cell hb s0
  replace s1 := keep_cell hb s1
  replace s2 := keep_cell hb s2
  replace s3 := keep_cell hb s3
  replace s4 := keep_cell hb s4
  replace s5 := keep_cell hb s5
  clear hb LA
  go_wp2_with fail
  refine hK.out _ _ ⟨s0, s1, s2, s3, s4, s5⟩ (fun hHeld => ?_)
  clear hK K s0 s1 s2 s3 s4 s5
  (try simp only [Act.put, List.setIfInBounds_toArray, List.set_cons_zero, List.set_cons_succ])
  refine wpAnyH_take (i := 21) (oi := ⟨some 40, _, _, _, _, _⟩) (v := ?_) rfl (by kernel_rfl) (by kernel_rfl) (by kernel_rfl) (fun _ _ _ h => h) (Or.inl ⟨by kernel_rfl, ?_⟩) (by assumption) ?_
  rotate_left 1
  · ((intro w hSw; (try dsimp only at hSw); go_simp) <;> (try with_reducible rfl))
  (try simp only [Act.put, List.setIfInBounds_toArray, List.set_cons_zero, List.set_cons_succ])
  refine wpAnyH_take (i := 22) (oi := ⟨some 41, _, _, _, _, _⟩) (v := ?_) rfl (by kernel_rfl) (by kernel_rfl) (by kernel_rfl) (fun _ _ _ h => h) (Or.inl ⟨by kernel_rfl, ?_⟩) (by assumption) ?_
  rotate_left 1
  · ((intro w hSw; (try dsimp only at hSw); go_simp) <;> (try with_reducible rfl))
  (try simp only [Act.put, List.setIfInBounds_toArray, List.set_cons_zero, List.set_cons_succ])
  refine wpAnyH_take (i := 23) (oi := ⟨some 42, _, _, _, _, _⟩) (v := ?_) rfl (by kernel_rfl) (by kernel_rfl) (by kernel_rfl) (fun _ _ _ h => h) (Or.inl ⟨by kernel_rfl, ?_⟩) (by assumption) ?_
  rotate_left 1
  · ((intro w hSw; (try dsimp only at hSw); go_simp) <;> (try with_reducible rfl))
  (try simp only [Act.put, List.setIfInBounds_toArray, List.set_cons_zero, List.set_cons_succ])
  refine wpAnyH_take (i := 24) (oi := ⟨some 43, _, _, _, _, _⟩) (v := ?_) rfl (by kernel_rfl) (by kernel_rfl) (by kernel_rfl) (fun _ _ _ h => h) (Or.inl ⟨by kernel_rfl, ?_⟩) (by assumption) ?_
  rotate_left 1
  · ((intro w hSw; (try dsimp only at hSw); go_simp) <;> (try with_reducible rfl))
  (try simp only [Act.put, List.setIfInBounds_toArray, List.set_cons_zero, List.set_cons_succ])
  refine wpAnyH_ready (rs := [25]) (by kernel_rfl) (by simp) ?_
  refine AllReadyH.cons (o := ⟨some 44, _, _, _, _, _⟩) rfl (fun K hK => ?_) AllReadyH.nil
  go_simp
  (with_reducible refine (HMX.out _ HBr.out).mono ?_)
  rintro e wv ⟨rfl, hb⟩
  obtain ⟨s0, s1, s2, s3, s4, s5⟩ := hHeld
  have HBr := Lib.hid (Below.call HBr.out hb)
  replace s0 := keep_cell hb s0
  replace s1 := keep_cell hb s1
  replace s2 := keep_cell hb s2
  replace s3 := keep_cell hb s3
  replace s4 := keep_cell hb s4
  replace s5 := keep_cell hb s5
  clear hb
  go_wp2_with fail
  refine hK.out _ _ ⟨s0, s1, s2, s3, s4, s5⟩ (fun hHeld => ?_)
  clear hK K s0 s1 s2 s3 s4 s5
  (try simp only [Act.put, List.setIfInBounds_toArray, List.set_cons_zero, List.set_cons_succ])
  refine wpAnyH_take (i := 26) (oi := ⟨some 45, _, _, _, _, _⟩) (v := ?_) rfl (by kernel_rfl) (by kernel_rfl) (by kernel_rfl) (fun _ _ _ h => h) (Or.inl ⟨by kernel_rfl, ?_⟩) (by assumption) ?_
  rotate_left 1
  · ((intro w hSw; (try dsimp only at hSw); go_simp) <;> (try with_reducible rfl))
  (try simp only [Act.put, List.setIfInBounds_toArray, List.set_cons_zero, List.set_cons_succ])
  refine wpAnyH_take (i := 27) (oi := ⟨some 46, _, _, _, _, _⟩) (v := ?_) rfl (by kernel_rfl) (by kernel_rfl) (by kernel_rfl) (fun _ _ _ h => h) (Or.inl ⟨by kernel_rfl, ?_⟩) (by assumption) ?_
  rotate_left 1
  · ((intro w hSw; (try dsimp only at hSw); go_simp) <;> (try with_reducible rfl))
  (try simp only [Act.put, List.setIfInBounds_toArray, List.set_cons_zero, List.set_cons_succ])
  refine wpAnyH_take (i := 28) (oi := ⟨some 47, _, _, _, _, _⟩) (v := ?_) rfl (by kernel_rfl) (by kernel_rfl) (by kernel_rfl) (fun _ _ _ h => h) (Or.inl ⟨by kernel_rfl, ?_⟩) (by assumption) ?_
  rotate_left 1
  · ((intro w hSw; (try dsimp only at hSw); go_simp) <;> (try with_reducible rfl))
  (try simp only [Act.put, List.setIfInBounds_toArray, List.set_cons_zero, List.set_cons_succ])
  refine wpAnyH_take (i := 29) (oi := ⟨some 48, _, _, _, _, _⟩) (v := ?_) rfl (by kernel_rfl) (by kernel_rfl) (by kernel_rfl) (fun _ _ _ h => h) (Or.inl ⟨by kernel_rfl, ?_⟩) (by assumption) ?_
  rotate_left 1
  · ((intro w hSw; (try dsimp only at hSw); go_simp) <;> (try with_reducible rfl))
  (try simp only [Act.put, List.setIfInBounds_toArray, List.set_cons_zero, List.set_cons_succ])
  refine wpAnyH_take (i := 30) (oi := ⟨some 49, _, _, _, _, _⟩) (v := ?_) rfl (by kernel_rfl) (by kernel_rfl) (by kernel_rfl) (fun _ _ _ h => h) (Or.inl ⟨by kernel_rfl, ?_⟩) (by assumption) ?_
  rotate_left 1
  · ((intro w hSw; (try dsimp only at hSw); go_simp) <;> (try with_reducible rfl))
  (try simp only [Act.put, List.setIfInBounds_toArray, List.set_cons_zero, List.set_cons_succ])
  refine wpAnyH_take (i := 31) (oi := ⟨some 50, _, _, _, _, _⟩) (v := ?_) rfl (by kernel_rfl) (by kernel_rfl) (by kernel_rfl) (fun _ _ _ h => h) (Or.inl ⟨by kernel_rfl, ?_⟩) (by assumption) ?_
  rotate_left 1
  · ((intro w hSw; (try dsimp only at hSw); go_simp) <;> (try with_reducible rfl))
  (try simp only [Act.put, List.setIfInBounds_toArray, List.set_cons_zero, List.set_cons_succ])
  refine wpAnyH_take (i := 32) (oi := ⟨some 51, _, _, _, _, _⟩) (v := ?_) rfl (by kernel_rfl) (by kernel_rfl) (by kernel_rfl) (fun _ _ _ h => h) (Or.inl ⟨by kernel_rfl, ?_⟩) (by assumption) ?_
  rotate_left 1
  · ((intro w hSw; (try dsimp only at hSw); go_simp) <;> (try with_reducible rfl))
  (try simp only [Act.put, List.setIfInBounds_toArray, List.set_cons_zero, List.set_cons_succ])
  refine wpAnyH_take (i := 33) (oi := ⟨some 52, _, _, _, _, _⟩) (v := ?_) rfl (by kernel_rfl) (by kernel_rfl) (by kernel_rfl) (fun _ _ _ h => h) (Or.inl ⟨by kernel_rfl, ?_⟩) (by assumption) ?_
  rotate_left 1
  · ((intro w hSw; (try dsimp only at hSw); go_simp) <;> (try with_reducible rfl))
  (try simp only [Act.put, List.setIfInBounds_toArray, List.set_cons_zero, List.set_cons_succ])
  refine wpAnyH_take (i := 34) (oi := ⟨some 53, _, _, _, _, _⟩) (v := ?_) rfl (by kernel_rfl) (by kernel_rfl) (by kernel_rfl) (fun _ _ _ h => h) (Or.inl ⟨by kernel_rfl, ?_⟩) (by assumption) ?_
  rotate_left 1
  · ((intro w hSw; (try dsimp only at hSw); go_simp) <;> (try with_reducible rfl))
  (try simp only [Act.put, List.setIfInBounds_toArray, List.set_cons_zero, List.set_cons_succ])
  refine wpAnyH_take (i := 35) (oi := ⟨some 54, _, _, _, _, _⟩) (v := ?_) rfl (by kernel_rfl) (by kernel_rfl) (by kernel_rfl) (fun _ _ _ h => h) (Or.inl ⟨by kernel_rfl, ?_⟩) (by assumption) ?_
  rotate_left 1
  · ((intro w hSw; (try dsimp only at hSw); go_simp) <;> (try with_reducible rfl))
  (try simp only [Act.put, List.setIfInBounds_toArray, List.set_cons_zero, List.set_cons_succ])
  refine wpAnyH_take (i := 36) (oi := ⟨some 55, _, _, _, _, _⟩) (v := ?_) rfl (by kernel_rfl) (by kernel_rfl) (by kernel_rfl) (fun _ _ _ h => h) (Or.inl ⟨by kernel_rfl, ?_⟩) (by assumption) ?_
  rotate_left 1
  · ((intro w hSw; (try dsimp only at hSw); go_simp) <;> (try with_reducible rfl))
  (try simp only [Act.put, List.setIfInBounds_toArray, List.set_cons_zero, List.set_cons_succ])
  refine wpAnyH_take (i := 37) (oi := ⟨some 56, _, _, _, _, _⟩) (v := ?_) rfl (by kernel_rfl) (by kernel_rfl) (by kernel_rfl) (fun _ _ _ h => h) (Or.inl ⟨by kernel_rfl, ?_⟩) (by assumption) ?_
  rotate_left 1
  · ((intro w hSw; (try dsimp only at hSw); go_simp) <;> (try with_reducible rfl))
  (try simp only [Act.put, List.setIfInBounds_toArray, List.set_cons_zero, List.set_cons_succ])
  refine wpAnyH_take (i := 38) (oi := ⟨some 57, _, _, _, _, _⟩) (v := ?_) rfl (by kernel_rfl) (by kernel_rfl) (by kernel_rfl) (fun _ _ _ h => h) (Or.inl ⟨by kernel_rfl, ?_⟩) (by assumption) ?_
  rotate_left 1
  · ((intro w hSw; (try dsimp only at hSw); go_simp) <;> (try with_reducible rfl))
  (try simp only [Act.put, List.setIfInBounds_toArray, List.set_cons_zero, List.set_cons_succ])
  refine wpAnyH_take (i := 39) (oi := ⟨some 58, _, _, _, _, _⟩) (v := ?_) rfl (by kernel_rfl) (by kernel_rfl) (by kernel_rfl) (fun _ _ _ h => h) (Or.inl ⟨by kernel_rfl, ?_⟩) (by assumption) ?_
  rotate_left 1
  · ((intro w hSw; (try dsimp only at hSw); go_simp) <;> (try with_reducible rfl))
  (try simp only [Act.put, List.setIfInBounds_toArray, List.set_cons_zero, List.set_cons_succ])
  refine wpAnyH_take (i := 40) (oi := ⟨some 59, _, _, _, _, _⟩) (v := ?_) rfl (by kernel_rfl) (by kernel_rfl) (by kernel_rfl) (fun _ _ _ h => h) (Or.inl ⟨by kernel_rfl, ?_⟩) (by assumption) ?_
  rotate_left 1
  · ((intro w hSw; (try dsimp only at hSw); go_simp) <;> (try with_reducible rfl))
  (try simp only [Act.put, List.setIfInBounds_toArray, List.set_cons_zero, List.set_cons_succ])
  refine wpAnyH_take (i := 41) (oi := ⟨some 60, _, _, _, _, _⟩) (v := ?_) rfl (by kernel_rfl) (by kernel_rfl) (by kernel_rfl) (fun _ _ _ h => h) (Or.inl ⟨by kernel_rfl, ?_⟩) (by assumption) ?_
  rotate_left 1
  · ((intro w hSw; (try dsimp only at hSw); go_simp) <;> (try with_reducible rfl))
  (try simp only [Act.put, List.setIfInBounds_toArray, List.set_cons_zero, List.set_cons_succ])
  refine wpAnyH_take (i := 42) (oi := ⟨some 61, _, _, _, _, _⟩) (v := ?_) rfl (by kernel_rfl) (by kernel_rfl) (by kernel_rfl) (fun _ _ _ h => h) (Or.inl ⟨by kernel_rfl, ?_⟩) (by assumption) ?_
  rotate_left 1
  · ((intro w hSw; (try dsimp only at hSw); go_simp) <;> (try with_reducible rfl))
  (try simp only [Act.put, List.setIfInBounds_toArray, List.set_cons_zero, List.set_cons_succ])
  refine wpAnyH_take (i := 43) (oi := ⟨some 62, _, _, _, _, _⟩) (v := ?_) rfl (by kernel_rfl) (by kernel_rfl) (by kernel_rfl) (fun _ _ _ h => h) (Or.inl ⟨by kernel_rfl, ?_⟩) (by assumption) ?_
  rotate_left 1
  · ((intro w hSw; (try dsimp only at hSw); go_simp) <;> (try with_reducible rfl))
  (try simp only [Act.put, List.setIfInBounds_toArray, List.set_cons_zero, List.set_cons_succ])
  refine wpAnyH_take (i := 44) (oi := ⟨some 63, _, _, _, _, _⟩) (v := ?_) rfl (by kernel_rfl) (by kernel_rfl) (by kernel_rfl) (fun _ _ _ h => h) (Or.inl ⟨by kernel_rfl, ?_⟩) (by assumption) ?_
  rotate_left 1
  · ((intro w hSw; (try dsimp only at hSw); go_simp) <;> (try with_reducible rfl))
  (try simp only [Act.put, List.setIfInBounds_toArray, List.set_cons_zero, List.set_cons_succ])
  refine wpAnyH_take (i := 45) (oi := ⟨some 64, _, _, _, _, _⟩) (v := ?_) rfl (by kernel_rfl) (by kernel_rfl) (by kernel_rfl) (fun _ _ _ h => h) (Or.inl ⟨by kernel_rfl, ?_⟩) (by assumption) ?_
  rotate_left 1
  · ((intro w hSw; (try dsimp only at hSw); go_simp) <;> (try with_reducible rfl))
  (try simp only [Act.put, List.setIfInBounds_toArray, List.set_cons_zero, List.set_cons_succ])
  refine wpAnyH_take (i := 46) (oi := ⟨some 65, _, _, _, _, _⟩) (v := ?_) rfl (by kernel_rfl) (by kernel_rfl) (by kernel_rfl) (fun _ _ _ h => h) (Or.inl ⟨by kernel_rfl, ?_⟩) (by assumption) ?_
  rotate_left 1
  · ((intro w hSw; (try dsimp only at hSw); go_simp) <;> (try with_reducible rfl))
  (try simp only [Act.put, List.setIfInBounds_toArray, List.set_cons_zero, List.set_cons_succ])
  refine wpAnyH_take (i := 47) (oi := ⟨some 66, _, _, _, _, _⟩) (v := ?_) rfl (by kernel_rfl) (by kernel_rfl) (by kernel_rfl) (fun _ _ _ h => h) (Or.inl ⟨by kernel_rfl, ?_⟩) (by assumption) ?_
  rotate_left 1
  · ((intro w hSw; (try dsimp only at hSw); go_simp) <;> (try with_reducible rfl))
  (try simp only [Act.put, List.setIfInBounds_toArray, List.set_cons_zero, List.set_cons_succ])
  refine wpAnyH_ready (rs := [48]) (by kernel_rfl) (by simp) ?_
  refine AllReadyH.cons (o := ⟨some 67, _, _, _, _, _⟩) rfl (fun K hK => ?_) AllReadyH.nil
  go_simp
  (with_reducible refine (HOP.out _ HBr.out).mono ?_)
  rintro e wv ⟨vo, rfl, hvo, hb⟩
  obtain ⟨go, co, rfl, -⟩ := KC.one1 hvo
  obtain ⟨s0, s1, s2, s3, s4, s5⟩ := hHeld
  have HBr := Lib.hid (Below.call HBr.out hb)
  replace s0 := keep_cell hb s0
  replace s1 := keep_cell hb s1
  replace s2 := keep_cell hb s2
  replace s3 := keep_cell hb s3
  replace s4 := keep_cell hb s4
  replace s5 := keep_cell hb s5
  clear hb hvo
  go_wp2_with fail
  refine hK.out _ _ ⟨s0, s1, s2, s3, s4, s5⟩ (fun hHeld => ?_)
  clear hK K s0 s1 s2 s3 s4 s5
  (try simp only [Act.put, List.setIfInBounds_toArray, List.set_cons_zero, List.set_cons_succ])
  refine wpAnyH_take (i := 49) (oi := ⟨some 68, _, _, _, _, _⟩) (v := ?_) rfl (by kernel_rfl) (by kernel_rfl) (by kernel_rfl) (fun _ _ _ h => h) (Or.inl ⟨by kernel_rfl, ?_⟩) (by assumption) ?_
  rotate_left 1
  · ((intro w hSw; (try dsimp only at hSw); go_simp) <;> (try with_reducible rfl))
  (try simp only [Act.put, List.setIfInBounds_toArray, List.set_cons_zero, List.set_cons_succ])
  refine wpAnyH_take (i := 50) (oi := ⟨some 69, _, _, _, _, _⟩) (v := ?_) rfl (by kernel_rfl) (by kernel_rfl) (by kernel_rfl) (fun _ _ _ h => h) (Or.inl ⟨by kernel_rfl, ?_⟩) (by assumption) ?_
  rotate_left 1
  · ((intro w hSw; (try dsimp only at hSw); go_simp) <;> (try with_reducible rfl))
  (try simp only [Act.put, List.setIfInBounds_toArray, List.set_cons_zero, List.set_cons_succ])
  refine wpAnyH_take (i := 51) (oi := ⟨some 70, _, _, _, _, _⟩) (v := ?_) rfl (by kernel_rfl) (by kernel_rfl) (by kernel_rfl) (fun _ _ _ h => h) (Or.inl ⟨by kernel_rfl, ?_⟩) (by assumption) ?_
  rotate_left 1
  · ((intro w hSw; (try dsimp only at hSw); go_simp) <;> (try with_reducible rfl))
  (try simp only [Act.put, List.setIfInBounds_toArray, List.set_cons_zero, List.set_cons_succ])
  refine wpAnyH_take (i := 52) (oi := ⟨some 71, _, _, _, _, _⟩) (v := ?_) rfl (by kernel_rfl) (by kernel_rfl) (by kernel_rfl) (fun _ _ _ h => h) (Or.inl ⟨by kernel_rfl, ?_⟩) (by assumption) ?_
  rotate_left 1
  · ((intro w hSw; (try dsimp only at hSw); go_simp) <;> (try with_reducible rfl))
  (try simp only [Act.put, List.setIfInBounds_toArray, List.set_cons_zero, List.set_cons_succ])
  refine wpAnyH_take (i := 53) (oi := ⟨some 72, _, _, _, _, _⟩) (v := ?_) rfl (by kernel_rfl) (by kernel_rfl) (by kernel_rfl) (fun _ _ _ h => h) (Or.inl ⟨by kernel_rfl, ?_⟩) (by assumption) ?_
  rotate_left 1
  · ((intro w hSw; (try dsimp only at hSw); go_simp) <;> (try with_reducible rfl))
  (try simp only [Act.put, List.setIfInBounds_toArray, List.set_cons_zero, List.set_cons_succ])
  refine wpAnyH_take (i := 54) (oi := ⟨some 73, _, _, _, _, _⟩) (v := ?_) rfl (by kernel_rfl) (by kernel_rfl) (by kernel_rfl) (fun _ _ _ h => h) (Or.inl ⟨by kernel_rfl, ?_⟩) (by assumption) ?_
  rotate_left 1
  · ((intro w hSw; (try dsimp only at hSw); go_simp) <;> (try with_reducible rfl))
  (try simp only [Act.put, List.setIfInBounds_toArray, List.set_cons_zero, List.set_cons_succ])
  refine wpAnyH_take (i := 55) (oi := ⟨some 74, _, _, _, _, _⟩) (v := ?_) rfl (by kernel_rfl) (by kernel_rfl) (by kernel_rfl) (fun _ _ _ h => h) (Or.inl ⟨by kernel_rfl, ?_⟩) (by assumption) ?_
  rotate_left 1
  · ((intro w hSw; (try dsimp only at hSw); go_simp) <;> (try with_reducible rfl))
  (try simp only [Act.put, List.setIfInBounds_toArray, List.set_cons_zero, List.set_cons_succ])
  refine wpAnyH_ready (rs := [56]) (by kernel_rfl) (by simp) ?_
  refine AllReadyH.cons (o := ⟨some 75, _, _, _, _, _⟩) rfl (fun K hK => ?_) AllReadyH.nil
  go_simp
  (with_reducible refine (HBE.out _ HBr.out).mono ?_)
  rintro e wv ⟨rfl, hb⟩
  obtain ⟨s0, s1, s2, s3, s4, s5⟩ := hHeld
  have HBr := Lib.hid (Below.call HBr.out hb)
  replace s0 := keep_cell hb s0
  replace s1 := keep_cell hb s1
  replace s2 := keep_cell hb s2
  replace s3 := keep_cell hb s3
  replace s4 := keep_cell hb s4
  replace s5 := keep_cell hb s5
  clear hb
  go_wp2_with fail
  refine hK.out _ _ ⟨s0, s1, s2, s3, s4, s5⟩ (fun hHeld => ?_)
  clear hK K s0 s1 s2 s3 s4 s5
  (try simp only [Act.put, List.setIfInBounds_toArray, List.set_cons_zero, List.set_cons_succ])
  refine wpAnyH_take (i := 57) (oi := ⟨some 76, _, _, _, _, _⟩) (v := ?_) rfl (by kernel_rfl) (by kernel_rfl) (by kernel_rfl) (fun _ _ _ h => h) (Or.inl ⟨by kernel_rfl, ?_⟩) (by assumption) ?_
  rotate_left 1
  · ((intro w hSw; (try dsimp only at hSw); go_simp) <;> (try with_reducible rfl))
  (try simp only [Act.put, List.setIfInBounds_toArray, List.set_cons_zero, List.set_cons_succ])
  refine wpAnyH_take (i := 58) (oi := ⟨some 77, _, _, _, _, _⟩) (v := ?_) rfl (by kernel_rfl) (by kernel_rfl) (by kernel_rfl) (fun _ _ _ h => h) (Or.inl ⟨by kernel_rfl, ?_⟩) (by assumption) ?_
  rotate_left 1
  · ((intro w hSw; (try dsimp only at hSw); go_simp) <;> (try with_reducible rfl))
  (try simp only [Act.put, List.setIfInBounds_toArray, List.set_cons_zero, List.set_cons_succ])
  refine wpAnyH_take (i := 59) (oi := ⟨some 0, _, _, _, _, _⟩) (v := ?_) rfl (by kernel_rfl) (by kernel_rfl) (by kernel_rfl) (fun _ _ _ h => h) (Or.inl ⟨by kernel_rfl, ?_⟩) (by assumption) ?_
  rotate_left 1
  · ((intro w hSw; (try dsimp only at hSw); go_simp) <;> (try with_reducible rfl))
  (try simp only [Act.put, List.setIfInBounds_toArray, List.set_cons_zero])
  refine wpAnyH_done (by kernel_rfl) ?_ _

  go_wp2
  go_ret
  exact ⟨rfl, Below.call HBW.out HBr.out⟩
end Go.Proofs.Ytbfklpopodmalaa
