/- Plans: a step. -/
import Derived.Test.YtbflkdkbfidleaaVI
import Derived.Deep.RegionHeld3
namespace Go.Proofs.Ytbflkdkbfidleaa
open Go.RowKit Go.Maps
theorem Wk.more {w : World} {B bm n : Nat} {p : Int} {h : List Int} {l : Int} (k : Wk w B bm n p h l) : Wk w B bm (n + 1) p h l := let ⟨D, o, r⟩ := k.m; ⟨k.c0, k.c1, k.c2, k.z0, k.z2, k.lt, k.ne, ⟨D, o.mono (Nat.le_succ _), r⟩⟩
set_option maxRecDepth 100000 in
set_option maxHeartbeats 4000000 in
theorem step_any (w : World) (B bm n base : Nat) (p : Int) (h : List Int) (l kd x : Int) (k : Wk w B bm n p h l) (hp : 0 ≤ p ∧ p ≤ 2) (hx : fits x) (hn : n ≤ 100000) (hlen : h.length ≤ 100000) (hB : base ≤ B) (hm : base ≤ bm) (hbw : base ≤ w.heap.size)
    (hl : p = 0 → (h = [] ∨ (l ∈ h ∧ ∀ y ∈ h, y ≤ l))) :
    Calls Try.prog 56 #[.pointer (some ⟨B, 0, none⟩), .agg #[.int .i64 kd, .int .i64 x]] w fun e w' => e = .returned (.bool (stS p h (kd, x)).isSome) ∧
      (∀ q g, stS p h (kd, x) = some (q, g) → ∃ l', Wk w' B bm (n + 1) q g l' ∧ (q = 0 → (g = [] ∨ (l' ∈ g ∧ ∀ y ∈ g, y ≤ l'))) ∧ (0 ≤ q ∧ q ≤ 2)) ∧ Below base w w' := by
  obtain ⟨z, hz⟩ : ∃ z, stS p h (kd, x) = z := ⟨_, rfl⟩
  have HZ := Lib.hid hz
  rw [hz]
  clear hz
  have HL := Lib.hid hl
  have HX := Lib.hid hx
  have HP := Lib.hid hp
  clear hl hp
  obtain ⟨D, hD⟩ : ∃ D, D = w.heap.size := ⟨_, rfl⟩
  obtain ⟨w0, hw0⟩ : ∃ w0, w0 = w.alloc (.cells #[.int .i64 kd, .int .i64 x] 48) := ⟨_, rfl⟩
  have HK := Lib.hid (show Wk w0 B bm n p h l by rw [hw0]; exact k.kept (World.grownBy_alloc _ _ _))
  have HDL0 := Lib.hid (show D < w0.heap.size by rw [hw0, hD]; simp)
  have HDN := Lib.hid (show D ≠ bm by have := k.m.lt; omega)
  have HBW0 := Lib.hid (show Below w.heap.size w w0 by rw [hw0]; exact Below.al (Below.refl _ _) _)
  have HB0 := Lib.hid (show Below base w w0 from HBW0.out.mono hbw)
  have e0 : w0.cell? ⟨D, 0, none⟩ = some (.int .i64 kd) := by rw [hw0, hD]; simp [go_sem]
  have e2 : w0.drew.cell? ⟨D, 1, none⟩ = some (.int .i64 x) := by show w0.cell? _ = _; rw [hw0, hD]; simp [go_sem]
  have e1 : w0.drew.cell? ⟨B, 1, none⟩ = some (.map (some bm)) := HK.out.c1
  have hkd := HK.out.drewN 1
  obtain ⟨q, hq⟩ : ∃ q, decide (x ∈ h) = q := ⟨_, rfl⟩
  have HQ := Lib.hid hq
  have hka := hkd.kept (World.grownBy_alloc _ (.cells #[] 67) none)
  have e3 : (Instr.lookup 62 (.map (some bm)) (.int .i64 x) true).run Try.prog w0.drew = .ok (.tuple #[.agg #[], .bool q]) w0.drew := by rw [← hq]; exact hkd.m.look hx
  have hl1 := hka.m.look hx
  rw [hq] at hl1
  have HK1 := Lib.hid hka
  have HL1 := Lib.hid hl1
  have HD1 := Lib.hid (show (World.alloc (w0.drewN 1) (.cells #[] 67)).cell? ⟨D, 1, none⟩ = some (.int .i64 x) from cell_grown e2 (World.grownBy_alloc _ (.cells #[] 67) none) HDL0.out (by simp))
  have HD0 := Lib.hid (show (World.alloc (w0.drewN 1) (.cells #[] 67)).cell? ⟨D, 0, none⟩ = some (.int .i64 kd) from cell_grown (w := w0.drewN 1) e0 (World.grownBy_alloc _ (.cells #[] 67) none) HDL0.out (by simp))
  have HBW := Lib.hid (show Below w.heap.size w (World.alloc (w0.drewN 1) (.cells #[] 67)) from (below_drewN HBW0.out 1).alloc HBW0.out.size _)
  have HB1 := Lib.hid (show Below base w (World.alloc (w0.drewN 1) (.cells #[] 67)) from HBW.out.mono hbw)
  have HDL := Lib.hid (show D < (World.alloc (w0.drewN 1) (.cells #[] 67)).heap.size by rw [World.size_alloc]; exact Nat.lt_succ_of_lt HDL0.out)
  clear hkd hka hl1 hq hx e0 k HB0 HBW0
  go_enter Try.func56, Try.ntmps56
  go_upto_region 1 with fail
  rw [← hw0]
  rw [← hD]
  clear hD
  have hdr : w0.drewN 1 = w0.drew := rfl
  rw [hdr] at HK1 HL1 HD1 HD0 HBW HB1 HDL
  clear hw0 hdr HDL0
  refine wp_region_held_drew (S := fun w' => w'.cell? ⟨B, 1, none⟩ = some (.map (some bm)) ∧ w'.cell? ⟨D, 1, none⟩ = some (.int .i64 x) ∧ (Instr.lookup 62 (.map (some bm)) (.int .i64 x) true).run Try.prog w' = .ok (.tuple #[.agg #[], .bool q]) w') (by kernel_rfl) ?_ (fun hHeld => ?_)
  · exact ⟨e1, e2, e3⟩
  clear e1 e2 e3
  generalize w0.drew = V0 at *
  refine wpAnyH_take (i := 0) (oi := ⟨some 8, _, _, _, _, _⟩) (v := ?_) rfl (by kernel_rfl) (by kernel_rfl) (by kernel_rfl) (fun _ _ _ h => h) (Or.inl ⟨by kernel_rfl, ?_⟩) (by assumption) ?_
  rotate_left 1
  · ((intro w hSw; (try dsimp only at hSw); go_simp) <;> (try with_reducible rfl))
  (try simp only [Act.put, List.setIfInBounds_toArray, List.set_cons_zero, List.set_cons_succ])
  refine wpAnyH_take (i := 1) (oi := ⟨some 9, _, _, _, _, _⟩) (v := ?_) rfl (by kernel_rfl) (by kernel_rfl) (by kernel_rfl) (fun _ _ _ h => h) (Or.inl ⟨by kernel_rfl, ?_⟩) (by assumption) ?_
  rotate_left 1
  · ((intro w hSw; (try dsimp only at hSw); go_simp) <;> (try with_reducible rfl))
  (try simp only [Act.put, List.setIfInBounds_toArray, List.set_cons_zero, List.set_cons_succ])
  refine wpAnyH_take (i := 2) (oi := ⟨some 10, _, _, _, _, _⟩) (v := ?_) rfl (by kernel_rfl) (by kernel_rfl) (by kernel_rfl) (fun _ _ _ h => h) (Or.inl ⟨by kernel_rfl, ?_⟩) (by assumption) ?_
  rotate_left 1
  · ((intro w hSw; (try dsimp only at hSw); go_simp) <;> (try with_reducible rfl))
  (try simp only [Act.put, List.setIfInBounds_toArray, List.set_cons_zero, List.set_cons_succ])
  refine wpAnyH_take (i := 3) (oi := ⟨some 11, _, _, _, _, _⟩) (v := ?_) rfl (by kernel_rfl) (by kernel_rfl) (by kernel_rfl) (fun _ _ _ h => h) (Or.inl ⟨by kernel_rfl, ?_⟩) (by assumption) ?_
  rotate_left 1
  · ((intro w hSw; (try dsimp only at hSw); go_simp) <;> (try with_reducible rfl))
  (try simp only [Act.put, List.setIfInBounds_toArray, List.set_cons_zero, List.set_cons_succ])
  refine wpAnyH_take (i := 4) (oi := ⟨some 12, _, _, _, _, _⟩) (v := ?_) rfl (by kernel_rfl) (by kernel_rfl) (by kernel_rfl) (fun _ _ _ h => h) (Or.inl ⟨by kernel_rfl, ?_⟩) (by assumption) ?_
  rotate_left 1
  · ((intro w hSw; (try dsimp only at hSw); go_simp) <;> (try with_reducible rfl))
  (try simp only [Act.put, List.setIfInBounds_toArray, List.set_cons_zero, List.set_cons_succ])
  refine wpAnyH_take (i := 5) (oi := ⟨some 13, _, _, _, _, _⟩) (v := ?_) rfl (by kernel_rfl) (by kernel_rfl) (by kernel_rfl) (fun _ _ _ h => h) (Or.inl ⟨by kernel_rfl, ?_⟩) (by assumption) ?_
  rotate_left 1
  · ((intro w hSw; (try dsimp only at hSw); go_simp) <;> (try with_reducible rfl))
  (try simp only [Act.put, List.setIfInBounds_toArray, List.set_cons_zero, List.set_cons_succ])
  refine wpAnyH_take (i := 6) (oi := ⟨some 14, _, _, _, _, _⟩) (v := ?_) rfl (by kernel_rfl) (by kernel_rfl) (by kernel_rfl) (fun _ _ _ h => h) (Or.inl ⟨by kernel_rfl, ?_⟩) (by assumption) ?_
  rotate_left 1
  · ((intro w hSw; (try dsimp only at hSw); go_simp) <;> (try with_reducible rfl))
  (try simp only [Act.put, List.setIfInBounds_toArray, List.set_cons_zero, List.set_cons_succ])
  refine wpAnyH_take (i := 7) (oi := ⟨some 7, _, _, _, _, _⟩) (v := ?_) rfl (by kernel_rfl) (by kernel_rfl) (by kernel_rfl) (fun _ _ _ h => h) (Or.inl ⟨by kernel_rfl, ?_⟩) (by assumption) ?_
  rotate_left 1
  · ((intro w hSw; (try dsimp only at hSw); go_simp) <;> (try with_reducible rfl))
  (try simp only [Act.put, List.setIfInBounds_toArray, List.set_cons_zero, List.set_cons_succ])
  refine wpAnyH_take (i := 8) (oi := ⟨some 15, _, _, _, _, _⟩) (v := ?_) rfl (by kernel_rfl) (by kernel_rfl) (by kernel_rfl) (fun _ _ _ h => h) (Or.inl ⟨by kernel_rfl, ?_⟩) (by assumption) ?_
  rotate_left 1
  · ((intro w hSw; (try dsimp only at hSw); go_simp) <;> (try with_reducible rfl))
  (try simp only [Act.put, List.setIfInBounds_toArray, List.set_cons_zero, List.set_cons_succ])
  refine wpAnyH_take (i := 9) (oi := ⟨some 16, _, _, _, _, _⟩) (v := ?_) rfl (by kernel_rfl) (by kernel_rfl) (by kernel_rfl) (fun _ _ _ h => h) (Or.inl ⟨by kernel_rfl, ?_⟩) (by assumption) ?_
  rotate_left 1
  · ((intro w hSw; (try dsimp only at hSw); go_simp) <;> (try with_reducible rfl))
  (try simp only [Act.put, List.setIfInBounds_toArray, List.set_cons_zero, List.set_cons_succ])
  refine wpAnyH_ready (rs := [10]) (by kernel_rfl) (by simp) ?_
  refine AllReadyH.cons (o := ⟨some 5, _, _, _, _, _⟩) rfl (fun K hK => ?_) AllReadyH.nil
  go_simp
  refine hK.out _ _ ⟨HK1.out.c1, HD1.out, HL1.out⟩ (fun hHeld => ?_)
  clear hK K
  (try simp only [Act.put, List.setIfInBounds_toArray, List.set_cons_zero, List.set_cons_succ])
  refine wpAnyH_ready (rs := [11]) (by kernel_rfl) (by simp) ?_
  refine AllReadyH.cons (o := ⟨none, _, _, _, _, _⟩) rfl (fun K hK => ?_) AllReadyH.nil
  go_simp
  refine hK.out _ _ hHeld (fun hHeld => ?_)
  clear hK K
  (try simp only [Act.put, List.setIfInBounds_toArray, List.set_cons_zero, List.set_cons_succ])
  refine wpAnyH_take (i := 12) (oi := ⟨some 6, _, _, _, _, _⟩) (v := ?_) rfl (by kernel_rfl) (by kernel_rfl) (by kernel_rfl) (fun _ _ _ h => h) (Or.inl ⟨by kernel_rfl, ?_⟩) (by assumption) ?_
  rotate_left 1
  · ((intro w hSw; (try dsimp only at hSw); go_simp) <;> (try with_reducible rfl))
  (try simp only [Act.put, List.setIfInBounds_toArray, List.set_cons_zero, List.set_cons_succ])
  refine wpAnyH_done (by kernel_rfl) ?_ _
  clear hHeld

  generalize V0.alloc (.cells #[] 67) = V1 at *
  clear HL1 HK
  have c0 := HK1.out.c0
  have c1 := HK1.out.c1
  have b0 := HD0.out
  have b1 := HD1.out
  have HTK := Lib.hid (take_any V1 B bm n base p h l x HK1.out HX.out hn hlen hB hm)
  have HPS := Lib.hid (fun fr => pass_any V1 B bm n base p h l fr HK1.out HP.out hB)
  have START := True.intro
  by_cases h1 : kd = 1
  · subst h1
    by_cases hp0 : p = 0
    · subst hp0
      have HLL := Lib.hid (HL.out rfl)
      by_cases hv : h = [] ∨ l < x
      · have hall : h.all (fun y => decide (y < x)) = true := by
          rw [List.all_eq_true]
          intro y hy
          refine decide_eq_true ?_
          rcases HLL.out with e | ⟨_, e⟩
          · rw [e] at hy; simp at hy
          · rcases hv with e2 | e2
            · rw [e2] at hy; simp at hy
            · have := e y hy; omega
        have HE := Lib.hid (show z = some (0, h ++ [x]) by rw [← HZ.out, st1, if_pos ⟨rfl, hall⟩])
        have HPL := Lib.hid (put_last hall)
        have HV := Lib.hid hv
        have HGE := Lib.hid (show ∀ y ∈ h ++ [x], y ≤ x from fun y hy => by
          rcases List.mem_append.1 hy with hy | hy
          · have := of_decide_eq_true (List.all_eq_true.1 hall y hy); omega
          · rw [List.mem_singleton] at hy; omega)
        rw [decide_eq_true hv] at HTK
        clear hv hall
        go_wp2_with fail
        refine HTK.out.mono ?_
        rintro e w3 ⟨rfl, hk3, hb3⟩
        have HK3 := Lib.hid (hk3 HV.out)
        have HB3 := Lib.hid (HB1.out.trans hb3)
        clear hk3 hb3
        rw [HPL.out] at HK3
        go_wp2
        go_ret
        refine ⟨ret_b (by rw [HE.out]; rfl), fun q g hs => ?_, HB3.out⟩
        rw [HE.out] at hs
        simp only [Option.some.injEq, Prod.mk.injEq] at hs
        obtain ⟨rfl, rfl⟩ := hs
        exact ⟨_, HK3.out, fun _ => .inr ⟨by simp, HGE.out⟩, by decide⟩
      · have HE := Lib.hid (show z = none by
          rw [← HZ.out, st1, if_neg]
          rintro ⟨_, ha⟩
          rcases HLL.out with e | ⟨e, _⟩
          · exact hv (.inl e)
          · exact hv (.inr (of_decide_eq_true (List.all_eq_true.1 ha l e))))
        rw [decide_eq_false hv] at HTK
        clear hv
        go_wp2_with fail
        refine HTK.out.mono ?_
        rintro e w3 ⟨rfl, hk3, hb3⟩
        have HB3 := Lib.hid (HB1.out.trans hb3)
        clear hk3 hb3
        go_wp2
        go_ret
        exact ⟨ret_b (by rw [HE.out]; rfl), (fun q g hs => by rw [HE.out] at hs; cases hs), HB3.out⟩
    · have HE := Lib.hid (show z = none by rw [← HZ.out, st1, if_neg (fun a => hp0 a.1)])
      have hq0 : (p == 0) = false := by rw [beq_eq_false_iff_ne]; exact hp0
      clear hp0
      go_wp2
      go_ret
      exact ⟨ret_b (by rw [HE.out]; rfl), (fun q g hs => by rw [HE.out] at hs; cases hs), HB1.out⟩
  have hq1 : (kd == 1) = false := by rw [beq_eq_false_iff_ne]; exact h1
  by_cases h2 : kd = 2
  · subst h2
    clear hq1 h1
    by_cases hp0 : p = 0
    · subst hp0
      cases q
      · have HE := Lib.hid (show z = none by rw [← HZ.out, st2, if_neg (fun a => of_decide_eq_false HQ.out a.2)])
        go_wp2
        go_ret
        exact ⟨ret_b (by rw [HE.out]; rfl), (fun q g hs => by rw [HE.out] at hs; cases hs), HB1.out⟩
      · have HE := Lib.hid (show z = some (0, h) by rw [← HZ.out, st2, if_pos ⟨rfl, of_decide_eq_true HQ.out⟩])
        go_wp2
        go_ret
        refine ⟨ret_b (by rw [HE.out]; rfl), fun q g hs => ?_, HB1.out⟩
        rw [HE.out] at hs
        simp only [Option.some.injEq, Prod.mk.injEq] at hs
        obtain ⟨rfl, rfl⟩ := hs
        exact ⟨_, HK1.out.more, fun _ => by first | exact HL.out rfl | exact HL.out trivial, by decide⟩
    · have HE := Lib.hid (show z = none by rw [← HZ.out, st2, if_neg (fun a => hp0 a.1)])
      have hq0 : (p == 0) = false := by rw [beq_eq_false_iff_ne]; exact hp0
      clear hp0
      go_wp2
      go_ret
      exact ⟨ret_b (by rw [HE.out]; rfl), (fun q g hs => by rw [HE.out] at hs; cases hs), HB1.out⟩
  have hq2 : (kd == 2) = false := by rw [beq_eq_false_iff_ne]; exact h2
  by_cases h4 : kd = 4
  · subst h4
    clear hq1 hq2 h1 h2
    go_upto_region 8 with fail
    refine wp_region_held_drew (S := fun w' => w'.cell? ⟨B, 1, none⟩ = some (.map (some bm)) ∧ w'.cell? ⟨D, 1, none⟩ = some (.int .i64 x)) (by kernel_rfl) ?_ (fun hHeld => ?_)
    · exact ⟨c1, b1⟩
    clear c1 b1
    have HKd := Lib.hid (HK1.out.drewN 1)
    obtain ⟨Dm, hom, hrm⟩ := HKd.out.m
    obtain ⟨V2, hrun, ho2, ht2⟩ := hom.drop Two.law3 Try.underlying62 (keyI HX.out) 0
    have HK2 := Lib.hid ((HKd.out.map ht2.grown ⟨_, ho2, hrm.del (hom.tidy Two.law3) x⟩))
    have HB2 := Lib.hid ((below_drewN HB1.out 1).grown ht2.grown (Nat.le_trans hbw HBW.out.size) (fun j hj => by cases hj; exact hm))
    have HT2 := Lib.hid ht2
    have hrun : (Builtin.delete_ #[62, 3] 0 #[.map (some bm), .int .i64 x]).run Try.prog V1.drew = .ok (.tuple #[]) V2 := hrun
    clear ho2 ht2 hom hrm
    refine wpAnyH_take (i := 0) (oi := ⟨some 44, _, _, _, _, _⟩) (v := ?_) rfl (by kernel_rfl) (by kernel_rfl) (by kernel_rfl) (fun _ _ _ h => h) (Or.inl ⟨by kernel_rfl, ?_⟩) (by assumption) ?_
    rotate_left 1
    · ((intro w hSw; (try dsimp only at hSw); go_simp) <;> (try with_reducible rfl))
    (try simp only [Act.put, List.setIfInBounds_toArray, List.set_cons_zero, List.set_cons_succ])
    refine wpAnyH_take (i := 1) (oi := ⟨some 45, _, _, _, _, _⟩) (v := ?_) rfl (by kernel_rfl) (by kernel_rfl) (by kernel_rfl) (fun _ _ _ h => h) (Or.inl ⟨by kernel_rfl, ?_⟩) (by assumption) ?_
    rotate_left 1
    · ((intro w hSw; (try dsimp only at hSw); go_simp) <;> (try with_reducible rfl))
    (try simp only [Act.put, List.setIfInBounds_toArray, List.set_cons_zero, List.set_cons_succ])
    refine wpAnyH_take (i := 2) (oi := ⟨some 46, _, _, _, _, _⟩) (v := ?_) rfl (by kernel_rfl) (by kernel_rfl) (by kernel_rfl) (fun _ _ _ h => h) (Or.inl ⟨by kernel_rfl, ?_⟩) (by assumption) ?_
    rotate_left 1
    · ((intro w hSw; (try dsimp only at hSw); go_simp) <;> (try with_reducible rfl))
    (try simp only [Act.put, List.setIfInBounds_toArray, List.set_cons_zero, List.set_cons_succ])
    refine wpAnyH_take (i := 3) (oi := ⟨some 47, _, _, _, _, _⟩) (v := ?_) rfl (by kernel_rfl) (by kernel_rfl) (by kernel_rfl) (fun _ _ _ h => h) (Or.inl ⟨by kernel_rfl, ?_⟩) (by assumption) ?_
    rotate_left 1
    · ((intro w hSw; (try dsimp only at hSw); go_simp) <;> (try with_reducible rfl))
    (try simp only [Act.put, List.setIfInBounds_toArray, List.set_cons_zero, List.set_cons_succ])
    refine wpAnyH_take (i := 4) (oi := ⟨some 48, _, _, _, _, _⟩) (v := ?_) rfl (by kernel_rfl) (by kernel_rfl) (by kernel_rfl) (fun _ _ _ h => h) (Or.inl ⟨by kernel_rfl, ?_⟩) (by assumption) ?_
    rotate_left 1
    · ((intro w hSw; (try dsimp only at hSw); go_simp) <;> (try with_reducible rfl))
    (try simp only [Act.put, List.setIfInBounds_toArray, List.set_cons_zero, List.set_cons_succ])
    refine wpAnyH_take (i := 5) (oi := ⟨some 49, _, _, _, _, _⟩) (v := ?_) rfl (by kernel_rfl) (by kernel_rfl) (by kernel_rfl) (fun _ _ _ h => h) (Or.inl ⟨by kernel_rfl, ?_⟩) (by assumption) ?_
    rotate_left 1
    · ((intro w hSw; (try dsimp only at hSw); go_simp) <;> (try with_reducible rfl))
    (try simp only [Act.put, List.setIfInBounds_toArray, List.set_cons_zero, List.set_cons_succ])
    refine wpAnyH_ready (rs := [6]) (by kernel_rfl) (by simp) ?_
    refine AllReadyH.cons (o := ⟨none, _, _, _, _, _⟩) rfl (fun K hK => ?_) AllReadyH.nil
    go_simp
    refine hK.out _ _ ?_ (fun hHeld => ?_)
    · exact ⟨HK2.out.c1, cell_grown hHeld.2 HT2.out.grown HDL.out (fun e => HDN.out (by injection e))⟩
    clear hK K
    (try simp only [Act.put, List.setIfInBounds_toArray, List.set_cons_zero, List.set_cons_succ])
    refine wpAnyH_done (by kernel_rfl) ?_ _
    clear hHeld hrun
    clear HTK HPS
    have c0 := HK2.out.c0
    by_cases hp1 : p = 1
    · subst hp1
      cases q
      · have HE := Lib.hid (show z = none by rw [← HZ.out, st4, if_neg (fun a => of_decide_eq_false HQ.out a.2)])
        go_wp2
        go_ret
        exact ⟨ret_b (by rw [HE.out]; rfl), (fun q g hs => by rw [HE.out] at hs; cases hs), HB2.out⟩
      · have HE := Lib.hid (show z = some (1, h.filter fun y => !decide (y ∈ [x])) by rw [← HZ.out, st4, if_pos ⟨rfl, of_decide_eq_true HQ.out⟩])
        go_wp2
        go_ret
        refine ⟨ret_b (by rw [HE.out]; rfl), fun q g hs => ?_, HB2.out⟩
        rw [HE.out] at hs
        simp only [Option.some.injEq, Prod.mk.injEq] at hs
        obtain ⟨rfl, rfl⟩ := hs
        exact ⟨_, HK2.out.more, fun a => absurd a (by decide), by decide⟩
    · have HE := Lib.hid (show z = none by rw [← HZ.out, st4, if_neg (fun a => hp1 a.1)])
      have hq0 : (p == 1) = false := by rw [beq_eq_false_iff_ne]; exact hp1
      clear hp1
      go_wp2
      go_ret
      exact ⟨ret_b (by rw [HE.out]; rfl), (fun q g hs => by rw [HE.out] at hs; cases hs), HB2.out⟩
  have hq4 : (kd == 4) = false := by rw [beq_eq_false_iff_ne]; exact h4
  by_cases h3 : kd = 3
  · subst h3
    clear hq1 hq2 hq4 h1 h2 h4
    by_cases hx0 : x = 0
    · subst hx0
      by_cases hp0 : p = 0
      · subst hp0
        have HE := Lib.hid (show z = some (1, h) by rw [← HZ.out, st3, if_pos ⟨rfl, rfl⟩])
        go_wp2_with fail
        refine (HPS.out 0).mono ?_
        rintro e w3 ⟨rfl, hk3, hb3⟩
        have HK3 := Lib.hid (hk3 rfl)
        have HB3 := Lib.hid (HB1.out.trans hb3)
        clear hk3 hb3
        rw [decide_eq_true rfl]
        go_wp2
        go_ret
        refine ⟨ret_b (by rw [HE.out]; rfl), fun q g hs => ?_, HB3.out⟩
        rw [HE.out] at hs
        simp only [Option.some.injEq, Prod.mk.injEq] at hs
        obtain ⟨rfl, rfl⟩ := hs
        exact ⟨_, HK3.out.more, fun a => absurd a (by decide), by decide⟩
      · have HE := Lib.hid (show z = none by rw [← HZ.out, st3, if_neg (fun a => hp0 a.1)])
        go_wp2_with fail
        refine (HPS.out 0).mono ?_
        rintro e w3 ⟨rfl, hk3, hb3⟩
        have HB3 := Lib.hid (HB1.out.trans hb3)
        clear hk3 hb3
        rw [decide_eq_false hp0]
        clear hp0
        go_wp2
        go_ret
        exact ⟨ret_b (by rw [HE.out]; rfl), (fun q g hs => by rw [HE.out] at hs; cases hs), HB3.out⟩
    · have HE := Lib.hid (show z = none by rw [← HZ.out, st3, if_neg (fun a => hx0 a.2)])
      have hq0 : (x == 0) = false := by rw [beq_eq_false_iff_ne]; exact hx0
      clear hx0
      go_wp2
      go_ret
      exact ⟨ret_b (by rw [HE.out]; rfl), (fun q g hs => by rw [HE.out] at hs; cases hs), HB1.out⟩
  have hq3 : (kd == 3) = false := by rw [beq_eq_false_iff_ne]; exact h3
  by_cases h5 : kd = 5
  · subst h5
    clear hq1 hq2 hq3 hq4 h1 h2 h3 h4
    by_cases hx0 : x = 0
    · subst hx0
      have hln := fun ty => HK1.out.m.len ty
      by_cases hh : h = []
      · subst hh
        simp only [List.length_nil] at hln
        by_cases hp1 : p = 1
        · subst hp1
          have HE := Lib.hid (show z = some (2, []) by rw [← HZ.out, st5, if_pos ⟨rfl, rfl, rfl⟩])
          go_wp2_with fail
          refine (HPS.out 1).mono ?_
          rintro e w3 ⟨rfl, hk3, hb3⟩
          have HK3 := Lib.hid (hk3 rfl)
          have HB3 := Lib.hid (HB1.out.trans hb3)
          clear hk3 hb3
          rw [decide_eq_true rfl]
          go_wp2
          go_ret
          refine ⟨ret_b (by rw [HE.out]; rfl), fun q g hs => ?_, HB3.out⟩
          rw [HE.out] at hs
          simp only [Option.some.injEq, Prod.mk.injEq] at hs
          obtain ⟨rfl, rfl⟩ := hs
          exact ⟨_, HK3.out.more, fun a => absurd a (by decide), by decide⟩
        · have HE := Lib.hid (show z = none by rw [← HZ.out, st5, if_neg (fun a => hp1 a.1)])
          go_wp2_with fail
          refine (HPS.out 1).mono ?_
          rintro e w3 ⟨rfl, hk3, hb3⟩
          have HB3 := Lib.hid (HB1.out.trans hb3)
          clear hk3 hb3
          rw [decide_eq_false hp1]
          clear hp1
          go_wp2
          go_ret
          exact ⟨ret_b (by rw [HE.out]; rfl), (fun q g hs => by rw [HE.out] at hs; cases hs), HB3.out⟩
      · have HE := Lib.hid (show z = none by rw [← HZ.out, st5, if_neg (fun a => hh a.2.2)])
        have hbl : ((h.length : Int) == 0) = false := by
          rw [beq_eq_false_iff_ne]
          intro e
          exact hh (List.eq_nil_of_length_eq_zero (by omega))
        clear hh
        go_wp2
        go_ret
        exact ⟨ret_b (by rw [HE.out]; rfl), (fun q g hs => by rw [HE.out] at hs; cases hs), HB1.out⟩
    · have HE := Lib.hid (show z = none by rw [← HZ.out, st5, if_neg (fun a => hx0 a.2.1)])
      have hq0 : (x == 0) = false := by rw [beq_eq_false_iff_ne]; exact hx0
      clear hx0
      go_wp2
      go_ret
      exact ⟨ret_b (by rw [HE.out]; rfl), (fun q g hs => by rw [HE.out] at hs; cases hs), HB1.out⟩
  have HE := Lib.hid (show z = none by rw [← HZ.out]; exact st0 _ _ _ _ h1 h2 h3 h4 h5)
  have hq5 : (kd == 5) = false := by rw [beq_eq_false_iff_ne]; exact h5
  clear h1 h2 h3 h4 h5
  go_wp2
  go_ret
  exact ⟨ret_b (by rw [HE.out]; rfl), (fun q g hs => by rw [HE.out] at hs; cases hs), HB1.out⟩
end Go.Proofs.Ytbflkdkbfidleaa
