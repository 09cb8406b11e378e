/- Stocks: Fill, Waste. -/
import Derived.Test.YtacjonncakhhmaaPb32
import Derived.Shelf.Abstract
namespace Go.Proofs.Ytacjonncakhhmaa
open Go.RowKit
set_option maxRecDepth 100000 in
set_option maxHeartbeats 4000000 in
theorem handle_any (s : Stk) (d : Dk) (b' : Int) (V : World) (B D k kf : Nat) (p : Int × Int) (er : Int) (hM : Mine V B D s) (hT : Tl V D d b') (hk : k < s.tl.length) (hp : fits p.1 ∧ fits p.2) (h3 : s.tl.length ≤ 100000) (hen : ∀ args w, (callFunc kf args).run Try.prog w = .ok (.enter kf args) w)
  (hdo : ∀ W, Calls Try.prog kf #[Tp.tpV (s.tl.getD k (0, 0)).1 (s.tl.getD k (0, 0)).2, .int .i64 b'] W fun e W' => e = .returned (Tp.tpE p er) ∧ Below W.heap.size W W') :
  Calls Try.prog 84 #[.pointer (some ⟨D, 0, none⟩), .int .i64 k, .func (.func kf) #[] #[]] V fun e V' => e = .returned (.int .i64 er) ∧ Mine V' B D { s with tl := s.tl.set k p } ∧ Tl V' D d b' ∧ Below D V V' := by
 have HM := Lib.hid hM
 have HT := Lib.hid hT
 have HP := Lib.hid hp
 have HEN := Lib.hid hen
 obtain ⟨gt, et, gt1, gt2, gt3⟩ := hM.tAt (by omega)
 have HG := Lib.hid (show B ≤ gt ∧ gt < V.heap.size ∧ s.tl.length ≤ s.tc ∧ D < B ∧ B ≤ V.heap.size from ⟨gt1, gt2, gt3, hM.lt, hM.le⟩)
 have HET := Lib.hid et
 have HCell := Lib.hid (fun (W : World) (h : Mine W B D s) => show W.cell? ⟨gt, k * 2, none⟩ = some (.int .i64 (s.tl.getD k (0, 0)).1) ∧ W.cell? ⟨gt, k * 2 + 1, none⟩ = some (.int .i64 (s.tl.getD k (0, 0)).2) ∧ W.frozen? ⟨gt, k * 2, none⟩ = false ∧ W.frozen? ⟨gt, k * 2 + 1, none⟩ = false from by
  have ho := h.t
  rw [HET.out] at ho
  exact KT.Own.at2 ho rfl k hk)
 have HDO := Lib.hid hdo
 obtain ⟨X, hX⟩ : ∃ X, s.tl.getD k (0, 0) = X := ⟨_, rfl⟩
 rw [hX] at HCell HDO
 obtain ⟨x1, x2⟩ := X
 obtain ⟨p1, p2⟩ := p
 dsimp only at *
 have hkT : (k : Int) < s.tl.length := by omega
 clear hM hT hp hen hdo gt1 gt2 gt3 et hX
 go_enter Try.func84, Try.ntmps84
 go_upto_region 2 with fail
 obtain ⟨e1, e2⟩ : V.drew.cell? ⟨D, 2, none⟩ = some (.slice (some ⟨gt, 0, none⟩) s.tl.length s.tc) ∧ V.drew.cell? ⟨D, 10, none⟩ = some (.int .i64 b') := ⟨by rw [← HET.out]; exact HM.out.at'.2.2.1, HT.out.2.2.2.2.1⟩
 refine wp_region_held_drew (S := fun w' => w'.cell? ⟨D, 2, none⟩ = some (.slice (some ⟨gt, 0, none⟩) s.tl.length s.tc) ∧ w'.cell? ⟨D, 10, none⟩ = some (.int .i64 b')) (by kernel_rfl) ?_ (fun hHeld => ?_)
 ·exact ⟨e1, e2⟩
 clear e1 e2
 have bw := (Below.refl V.heap.size V).drew
 have M7 := Lib.hid (HM.out.below bw)
 have T7 := Lib.hid (HT.out.below bw)
 have B7 := Lib.hid (Below.drew (Below.refl D V))
 have Z7 := Lib.hid (show V.heap.size ≤ V.drew.heap.size from Nat.le_refl _)
 clear bw HM HT
 generalize V.drew = v0 at *
 refine wpAnyH_take (i := 0) (oi := ⟨some 9, _, _, _, _, _⟩) (v := ?_) rfl (by kernel_rfl) (by kernel_rfl) (by kernel_rfl) (fun _ _ _ h => h) (Or.inl ⟨by kernel_rfl, ?_⟩) (by assumption) ?_
 rotate_left 1
 ·((intro w hSw; (try dsimp only at hSw); go_simp) <;> (try with_reducible rfl))
 (try simp only [Act.put, List.setIfInBounds_toArray, List.set_cons_zero, List.set_cons_succ])
 refine wpAnyH_take (i := 1) (oi := ⟨some 10, _, _, _, _, _⟩) (v := ?_) rfl (by kernel_rfl) (by kernel_rfl) (by kernel_rfl) (fun _ _ _ h => h) (Or.inl ⟨by kernel_rfl, ?_⟩) (by assumption) ?_
 rotate_left 1
 ·((intro w hSw; (try dsimp only at hSw); go_simp) <;> (try with_reducible rfl))
 (try simp only [Act.put, List.setIfInBounds_toArray, List.set_cons_zero, List.set_cons_succ])
 refine wpAnyH_take (i := 2) (oi := ⟨some 11, _, _, _, _, _⟩) (v := ?_) rfl (by kernel_rfl) (by kernel_rfl) (by kernel_rfl) (fun _ _ _ h => h) (Or.inl ⟨by kernel_rfl, ?_⟩) (by assumption) ?_
 rotate_left 1
 ·((intro w hSw; (try dsimp only at hSw); go_simp) <;> (try with_reducible rfl))
 (try simp only [Act.put, List.setIfInBounds_toArray, List.set_cons_zero, List.set_cons_succ])
 refine wpAnyH_take (i := 3) (oi := ⟨some 12, _, _, _, _, _⟩) (v := ?_) rfl (by kernel_rfl) (by kernel_rfl) (by kernel_rfl) (fun _ _ _ h => h) (Or.inl ⟨by kernel_rfl, ?_⟩) (by assumption) ?_
 rotate_left 1
 ·((intro w hSw; (try dsimp only at hSw); go_simp) <;> (try with_reducible rfl))
 (try simp only [Act.put, List.setIfInBounds_toArray, List.set_cons_zero, List.set_cons_succ])
 refine wpAnyH_take (i := 4) (oi := ⟨some 13, _, _, _, _, _⟩) (v := ?_) rfl (by kernel_rfl) (by kernel_rfl) (by kernel_rfl) (fun _ _ _ h => h) (Or.inl ⟨by kernel_rfl, ?_⟩) (by assumption) ?_
 rotate_left 1
 ·((intro w hSw; (try dsimp only at hSw); go_simp) <;> (try with_reducible rfl))
 (try simp only [Act.put, List.setIfInBounds_toArray, List.set_cons_zero, List.set_cons_succ])
 refine wpAnyH_take (i := 5) (oi := ⟨some 14, _, _, _, _, _⟩) (v := ?_) rfl (by kernel_rfl) (by kernel_rfl) (by kernel_rfl) (fun _ _ _ h => h) (Or.inl ⟨by kernel_rfl, ?_⟩) (by assumption) ?_
 rotate_left 1
 ·((intro w hSw; (try dsimp only at hSw); go_simp) <;> (try with_reducible rfl))
 (try simp only [Act.put, List.setIfInBounds_toArray, List.set_cons_zero, List.set_cons_succ])
 refine wpAnyH_take (i := 6) (oi := ⟨some 15, _, _, _, _, _⟩) (v := ?_) rfl (by kernel_rfl) (by kernel_rfl) (by kernel_rfl) (fun _ _ _ h => h) (Or.inl ⟨by kernel_rfl, ?_⟩) (by assumption) ?_
 rotate_left 1
 ·((intro w hSw; (try dsimp only at hSw); go_simp) <;> (try with_reducible rfl))
 (try simp only [Act.put, List.setIfInBounds_toArray, List.set_cons_zero, List.set_cons_succ])
 refine wpAnyH_take (i := 7) (oi := ⟨some 16, _, _, _, _, _⟩) (v := ?_) rfl (by kernel_rfl) (by kernel_rfl) (by kernel_rfl) (fun _ _ _ h => h) (Or.inl ⟨by kernel_rfl, ?_⟩) (by assumption) ?_
 rotate_left 1
 ·((intro w hSw; (try dsimp only at hSw); go_simp) <;> (try with_reducible rfl))
 (try simp only [Act.put, List.setIfInBounds_toArray, List.set_cons_zero, List.set_cons_succ])
 refine wpAnyH_take (i := 8) (oi := ⟨some 17, _, _, _, _, _⟩) (v := ?_) rfl (by kernel_rfl) (by kernel_rfl) (by kernel_rfl) (fun _ _ _ h => h) (Or.inl ⟨by kernel_rfl, ?_⟩) (by assumption) ?_
 rotate_left 1
 ·((intro w hSw; (try dsimp only at hSw); go_simp) <;> (try with_reducible rfl))
 (try simp only [Act.put, List.setIfInBounds_toArray, List.set_cons_zero, List.set_cons_succ])
 refine wpAnyH_take (i := 9) (oi := ⟨some 18, _, _, _, _, _⟩) (v := ?_) rfl (by kernel_rfl) (by kernel_rfl) (by kernel_rfl) (fun _ _ _ h => h) (Or.inl ⟨by kernel_rfl, ?_⟩) (by assumption) ?_
 rotate_left 1
 ·((intro w hSw; (try dsimp only at hSw); go_simp) <;> (try with_reducible rfl))
 (try simp only [Act.put, List.setIfInBounds_toArray, List.set_cons_zero, List.set_cons_succ])
 refine wpAnyH_take (i := 10) (oi := ⟨some 19, _, _, _, _, _⟩) (v := ?_) rfl (by kernel_rfl) (by kernel_rfl) (by kernel_rfl) (fun _ _ _ h => h) (Or.inl ⟨by kernel_rfl, ?_⟩) (by assumption) ?_
 rotate_left 1
 ·((intro w hSw; (try dsimp only at hSw); go_simp) <;> (try with_reducible rfl))
 (try simp only [Act.put, List.setIfInBounds_toArray, List.set_cons_zero, List.set_cons_succ])
 refine wpAnyH_take (i := 11) (oi := ⟨some 20, _, _, _, _, _⟩) (v := ?_) rfl (by kernel_rfl) (by kernel_rfl) (by kernel_rfl) (fun _ _ _ h => h) (Or.inl ⟨by kernel_rfl, ?_⟩) (by assumption) ?_
 rotate_left 1
 ·((intro w hSw; (try dsimp only at hSw); go_simp) <;> (try with_reducible rfl))
 (try simp only [Act.put, List.setIfInBounds_toArray, List.set_cons_zero, List.set_cons_succ])
 refine wpAnyH_take (i := 12) (oi := ⟨some 21, _, _, _, _, _⟩) (v := ?_) rfl (by kernel_rfl) (by kernel_rfl) (by kernel_rfl) (fun _ _ _ h => h) (Or.inl ⟨by kernel_rfl, ?_⟩) (by assumption) ?_
 rotate_left 1
 ·((intro w hSw; (try dsimp only at hSw); go_simp) <;> (try with_reducible rfl))
 (try simp only [Act.put, List.setIfInBounds_toArray, List.set_cons_zero, List.set_cons_succ])
 refine wpAnyH_take (i := 13) (oi := ⟨some 22, _, _, _, _, _⟩) (v := ?_) rfl (by kernel_rfl) (by kernel_rfl) (by kernel_rfl) (fun _ _ _ h => h) (Or.inl ⟨by kernel_rfl, ?_⟩) (by assumption) ?_
 rotate_left 1
 ·((intro w hSw; (try dsimp only at hSw); go_simp) <;> (try with_reducible rfl))
 (try simp only [Act.put, List.setIfInBounds_toArray, List.set_cons_zero, List.set_cons_succ])
 refine wpAnyH_take (i := 14) (oi := ⟨some 23, _, _, _, _, _⟩) (v := ?_) rfl (by kernel_rfl) (by kernel_rfl) (by kernel_rfl) (fun _ _ _ h => h) (Or.inl ⟨by kernel_rfl, ?_⟩) (by assumption) ?_
 rotate_left 1
 ·((intro w hSw; (try dsimp only at hSw); go_simp) <;> (try with_reducible rfl))
 (try simp only [Act.put, List.setIfInBounds_toArray, List.set_cons_zero, List.set_cons_succ])
 refine wpAnyH_take (i := 15) (oi := ⟨some 24, _, _, _, _, _⟩) (v := ?_) rfl (by kernel_rfl) (by kernel_rfl) (by kernel_rfl) (fun _ _ _ h => h) (Or.inl ⟨by kernel_rfl, ?_⟩) (by assumption) ?_
 rotate_left 1
 ·((intro w hSw; (try dsimp only at hSw); go_simp) <;> (try with_reducible rfl))
 (try simp only [Act.put, List.setIfInBounds_toArray, List.set_cons_zero, List.set_cons_succ])
 refine wpAnyH_take (i := 17) (oi := ⟨some 26, _, _, _, _, _⟩) (v := ?_) rfl (by kernel_rfl) (by kernel_rfl) (by kernel_rfl) (fun _ _ _ h => h) (Or.inl ⟨by kernel_rfl, ?_⟩) (by assumption) ?_
 rotate_left 1
 ·((intro w hSw; (try dsimp only at hSw); go_simp) <;> (try with_reducible rfl))
 (try simp only [Act.put, List.setIfInBounds_toArray, List.set_cons_zero, List.set_cons_succ])
 refine wpAnyH_take (i := 18) (oi := ⟨some 27, _, _, _, _, _⟩) (v := ?_) rfl (by kernel_rfl) (by kernel_rfl) (by kernel_rfl) (fun _ _ _ h => h) (Or.inl ⟨by kernel_rfl, ?_⟩) (by assumption) ?_
 rotate_left 1
 ·((intro w hSw; (try dsimp only at hSw); go_simp) <;> (try with_reducible rfl))
 (try simp only [Act.put, List.setIfInBounds_toArray, List.set_cons_zero, List.set_cons_succ])
 refine wpAnyH_take (i := 19) (oi := ⟨some 28, _, _, _, _, _⟩) (v := ?_) rfl (by kernel_rfl) (by kernel_rfl) (by kernel_rfl) (fun _ _ _ h => h) (Or.inl ⟨by kernel_rfl, ?_⟩) (by assumption) ?_
 rotate_left 1
 ·((intro w hSw; (try dsimp only at hSw); go_simp) <;> (try with_reducible rfl))
 (try simp only [Act.put, List.setIfInBounds_toArray, List.set_cons_zero, List.set_cons_succ])
 refine wpAnyH_take (i := 20) (oi := ⟨some 29, _, _, _, _, _⟩) (v := ?_) rfl (by kernel_rfl) (by kernel_rfl) (by kernel_rfl) (fun _ _ _ h => h) (Or.inl ⟨by kernel_rfl, ?_⟩) (by assumption) ?_
 rotate_left 1
 ·((intro w hSw; (try dsimp only at hSw); go_simp) <;> (try with_reducible rfl))
 (try simp only [Act.put, List.setIfInBounds_toArray, List.set_cons_zero, List.set_cons_succ])
 refine wpAnyH_ready (rs := [16]) (by kernel_rfl) (by simp) ?_
 refine AllReadyH.cons (o := ⟨some 25, _, _, _, _, _⟩) rfl (fun K hK => ?_) AllReadyH.nil
 obtain ⟨r0, r1, _⟩ := HCell.out _ M7.out
 go_simp
 clear r0 r1
 refine hK.out _ _ hHeld (fun hHeld => ?_)
 clear hK K
 (try simp only [Act.put, List.setIfInBounds_toArray, List.set_cons_zero, List.set_cons_succ])
 refine wpAnyH_ready (rs := [21]) (by kernel_rfl) (by simp) ?_
 refine AllReadyH.cons (o := ⟨some 30, _, _, _, _, _⟩) rfl (fun K hK => ?_) AllReadyH.nil
 have hen := HEN.out
 --CUT1
 go_simp
 --CUT2
 refine (HDO.out _).mono ?_
 rintro e v1 ⟨rfl, hb⟩
 have M8 := Lib.hid (M7.out.below hb)
 have T8 := Lib.hid (T7.out.below hb)
 have B8 := Lib.hid (B7.out.trans (hb.mono (by have := T7.out.2.2.2.2.2; omega)))
 obtain ⟨f1, f2⟩ := hHeld
 have hH := And.intro (keep_cell hb f1) (keep_cell hb f2)
 clear f1 f2
 --CUT3
 go_wp2_with fail
 clear hb hen M7 T7 B7
 --CUT4
 refine hK.out _ _ hH (fun hHeld => ?_)
 clear hK K
 clear hH
 (try simp only [Act.put, List.setIfInBounds_toArray, List.set_cons_zero, List.set_cons_succ])
 refine wpAnyH_take (i := 22) (oi := ⟨some 8, _, _, _, _, _⟩) (v := ?_) rfl (by kernel_rfl) (by kernel_rfl) (by kernel_rfl) (fun _ _ _ h => h) (Or.inl ⟨by kernel_rfl, ?_⟩) (by assumption) ?_
 rotate_left 1
 ·((intro w hSw; (try dsimp only at hSw); go_simp) <;> (try with_reducible rfl))
 (try simp only [Act.put, List.setIfInBounds_toArray, List.set_cons_zero, List.set_cons_succ])
 refine wpAnyH_take (i := 23) (oi := ⟨some 31, _, _, _, _, _⟩) (v := ?_) rfl (by kernel_rfl) (by kernel_rfl) (by kernel_rfl) (fun _ _ _ h => h) (Or.inl ⟨by kernel_rfl, ?_⟩) (by assumption) ?_
 rotate_left 1
 ·((intro w hSw; (try dsimp only at hSw); go_simp) <;> (try with_reducible rfl))
 (try simp only [Act.put, List.setIfInBounds_toArray, List.set_cons_zero, List.set_cons_succ])
 refine wpAnyH_take (i := 24) (oi := ⟨some 32, _, _, _, _, _⟩) (v := ?_) rfl (by kernel_rfl) (by kernel_rfl) (by kernel_rfl) (fun _ _ _ h => h) (Or.inl ⟨by kernel_rfl, ?_⟩) (by assumption) ?_
 rotate_left 1
 ·((intro w hSw; (try dsimp only at hSw); go_simp) <;> (try with_reducible rfl))
 (try simp only [Act.put, List.setIfInBounds_toArray, List.set_cons_zero, List.set_cons_succ])
 refine wpAnyH_take (i := 25) (oi := ⟨some 33, _, _, _, _, _⟩) (v := ?_) rfl (by kernel_rfl) (by kernel_rfl) (by kernel_rfl) (fun _ _ _ h => h) (Or.inl ⟨by kernel_rfl, ?_⟩) (by assumption) ?_
 rotate_left 1
 ·((intro w hSw; (try dsimp only at hSw); go_simp) <;> (try with_reducible rfl))
 (try simp only [Act.put, List.setIfInBounds_toArray, List.set_cons_zero, List.set_cons_succ])
 refine wpAnyH_ready (rs := [26]) (by kernel_rfl) (by simp) ?_
 refine AllReadyH.cons (o := ⟨none, _, _, _, _, _⟩) rfl (fun K hK => ?_) AllReadyH.nil
 obtain ⟨r0, r1, y0, y1⟩ := HCell.out _ M8.out
 go_simp
 clear r0 r1 y0 y1
 have hDg : gt ≠ D := by have := HG.out; omega
 have M9 := Lib.hid (show Mine ((v1.setCell ⟨gt, k * 2, none⟩ (.int .i64 p1)).setCell ⟨gt, k * 2 + 1, none⟩ (.int .i64 p2)) B D { s with tl := s.tl.set k (p1, p2) } from M8.out.putT k hk gt HET.out (p1, p2) HP.out)
 have T9 := Lib.hid ((T8.out.off (g := gt) (o := k * 2) (.inl hDg) (.int .i64 p1)).off (g := gt) (o := k * 2 + 1) (.inl hDg) (.int .i64 p2))
 have B9 := Lib.hid (show Below D V ((v1.setCell ⟨gt, k * 2, none⟩ (.int .i64 p1)).setCell ⟨gt, k * 2 + 1, none⟩ (.int .i64 p2)) from (B8.out.setCell (by show D ≤ gt; have := HG.out; omega) _).setCell (by show D ≤ gt; have := HG.out; omega) _)
 have st2 : ∀ a u, v1.cell? a = some u → gt ≠ a.block → ((v1.setCell ⟨gt, k * 2, none⟩ (.int .i64 p1)).setCell ⟨gt, k * 2 + 1, none⟩ (.int .i64 p2)).cell? a = some u := fun a u h hne => st_other (st_other h (fun e => hne (by rw [← e]))) (fun e => hne (by rw [← e]))
 obtain ⟨f1, f2⟩ := hHeld
 have hH2 := And.intro (st2 _ _ f1 hDg) (st2 _ _ f2 hDg)
 clear f1 f2
 refine hK.out _ _ hH2 (fun hHeld => ?_)
 clear hK K
 clear hH2 st2 hDg M8 T8 B8
 (try simp only [Act.put, List.setIfInBounds_toArray, List.set_cons_zero, List.set_cons_succ])
 refine wpAnyH_take (i := 27) (oi := ⟨some 7, _, _, _, _, _⟩) (v := ?_) rfl (by kernel_rfl) (by kernel_rfl) (by kernel_rfl) (fun _ _ _ h => h) (Or.inl ⟨by kernel_rfl, ?_⟩) (by assumption) ?_
 rotate_left 1
 ·((intro w hSw; (try dsimp only at hSw); go_simp) <;> (try with_reducible rfl))
 (try simp only [Act.put, List.setIfInBounds_toArray, List.set_cons_zero, List.set_cons_succ])
 refine wpAnyH_done (by kernel_rfl) ?_ _
 clear hHeld
 --CUT5
 go_wp2
 --CUT6
 refine bodyPost_ret (v := .int .i64 er) ?_ rfl ⟨rfl, M9.out, T9.out, B9.out⟩
 simp [results, Try.results84, go_sem]
end Go.Proofs.Ytacjonncakhhmaa
namespace Go.Proofs.Ytacjonncakhhmaa
open Go.RowKit
/-- What came in (4), what went out (5), is told anew. -/
def Stk.fl (s : Stk) (o : Nat) (n : Int) : Stk := if o = 4 then { s with inn := n } else { s with out := n }
/-- Why nothing flows. -/
noncomputable def flE (d : Dk) (id er f : Int) : Int := if isP d 1 id = true then (if er = 0 then (if flowB f = true then 0 else 4) else er) else 3
end Go.Proofs.Ytacjonncakhhmaa
namespace Go.Proofs.Ytacjonncakhhmaa
open Go.RowKit
theorem rg_ab (d : Dk) (a : Ab) (h : rgS d a = true) : (0 ≤ a.inn ∧ a.inn ≤ 1152921504606846976) ∧ (0 ≤ a.out ∧ a.out ≤ 1152921504606846976) ∧ (∀ k, k < a.c.length → (a.c.getD k ce0).Right) ∧ dchk d = 0 ∧ a.c.length = wellN d ∧ a.l.length = wellN d ∧ a.t.length = tipN d := by
 unfold rgS at h
 rw [Bool.and_eq_true, Bool.and_eq_true, Bool.and_eq_true, Bool.and_eq_true, decide_eq_true_eq, decide_eq_true_eq] at h
 obtain ⟨hz, ⟨⟨h1, h2⟩, _⟩, rs⟩ := h
 obtain ⟨n1, n2, n3, n4, n5⟩ := newA_len d hz
 obtain ⟨l1, l2⟩ := rw_len h1
 unfold rsB at rs
 rw [Bool.and_eq_true, Bool.and_eq_true, Bool.and_eq_true] at rs
 obtain ⟨⟨⟨_, f1⟩, f2⟩, _⟩ := rs
 unfold flowB at f1 f2
 rw [Bool.and_eq_true, decide_eq_true_eq, decide_eq_true_eq] at f1 f2
 refine ⟨f1, f2, fun k hk => ?_, zchk_d d hz, by omega, by omega, by omega⟩
 unfold rwB at h1
 rw [Bool.and_eq_true, List.all_eq_true] at h1
 have := h1.2 k (List.mem_range.2 hk)
 unfold okW at this
 rw [Bool.and_eq_true, Bool.and_eq_true] at this
 exact of_decide_eq_true this.1.1
/-- The log behind a change of a well, by the stock itself. -/
def ptA (a : Ab) (k : Nat) (c : Cel.Ce) (b' : Int) : Int × Int × List Ch :=
 (Lg.ntR (a.l.getD k (0, 0, [])).1 (a.l.getD k (0, 0, [])).2.1 (a.l.getD k (0, 0, [])).2.2 b' (c.b - (a.c.getD k ce0).b), Lg.ntM (a.l.getD k (0, 0, [])).1 (a.l.getD k (0, 0, [])).2.1 (a.l.getD k (0, 0, [])).2.2 b' (c.b - (a.c.getD k ce0).b), Lg.ntZ (a.l.getD k (0, 0, [])).1 (a.l.getD k (0, 0, [])).2.1 (a.l.getD k (0, 0, [])).2.2 b' (c.b - (a.c.getD k ce0).b))
theorem ptL_ab (s : Stk) (k : Nat) (hk : k < s.ll.length) (c : Cel.Ce) (b' : Int) : ptL s k c b' = ptA s.ab k c b' := by
 unfold ptL ptA
 rw [ab_l s k hk]
 rfl
theorem ch_ok {x : Cel.Ce} {m : Int} (h : Cel.chE x m = 0) : x.Right ∧ m ≠ 0 ∧ x.c ≠ 2147483647 ∧ 0 ≤ x.b + m ∧ x.b + m ≤ x.a := by
 unfold Cel.chE at h
 by_cases h1 : x.Right
 case neg => rw [if_pos h1] at h; cases h
 rw [if_neg (by simpa using h1)] at h
 by_cases h2 : m = 0
 ·rw [if_pos h2] at h; cases h
 rw [if_neg h2] at h
 by_cases h3 : x.c = 2147483647
 ·rw [if_pos h3] at h; cases h
 rw [if_neg h3] at h
 by_cases h4 : x.b + m < 0
 ·rw [if_pos h4] at h; cases h
 rw [if_neg h4] at h
 by_cases h5 : x.a < x.b + m
 ·rw [if_pos h5] at h; cases h
 exact ⟨h1, h2, h3, by omega, by omega⟩
theorem right_fit7 {x : Cel.Ce} (h : x.Right) : x.Fit := by
 unfold Cel.Ce.Right at h
 exact ⟨by unfold fits; omega, by unfold fits; omega, by unfold fits; omega⟩
theorem chV_fit (x : Cel.Ce) (m : Int) : (Cel.chV x m).Fit := by
 unfold Cel.chV
 by_cases h : Cel.chE x m = 0
 ·rw [if_pos h]
  obtain ⟨h1, h2, h3, h4, h5⟩ := ch_ok h
  unfold Cel.Ce.Right at h1
  exact ⟨by unfold fits; dsimp only; omega, by unfold fits; dsimp only; omega, by unfold fits; dsimp only; omega⟩
 ·rw [if_neg h]
  exact ⟨by decide, by decide, by decide⟩
theorem chV_b {x : Cel.Ce} {m : Int} (h : Cel.chE x m = 0) : (Cel.chV x m).b - x.b = m := by
 unfold Cel.chV
 rw [if_pos h]
 dsimp only
 omega
/-- A stock behind a flow. -/
def foA (a : Ab) (b' : Int) (k : Nat) (m : Int) (o : Nat) (f : Int) : Ab := ⟨a.c.set k (Cel.chV (a.c.getD k ce0) m), a.l.set k (ptA a k (Cel.chV (a.c.getD k ce0) m) b'), a.t, a.st, if o = 4 then f else a.inn, if o = 4 then a.out else f⟩
/-- Why nothing flows, by the stock itself. -/
noncomputable def foE (d : Dk) (a : Ab) (id m f : Int) : Int := flE d id (Cel.chE (a.c.getD id.toNat ce0) m) f
end Go.Proofs.Ytacjonncakhhmaa
namespace Go.Proofs.Ytacjonncakhhmaa
open Go.RowKit
end Go.Proofs.Ytacjonncakhhmaa
namespace Go.Proofs.Ytacjonncakhhmaa
open Go.RowKit
--CUTW
end Go.Proofs.Ytacjonncakhhmaa
