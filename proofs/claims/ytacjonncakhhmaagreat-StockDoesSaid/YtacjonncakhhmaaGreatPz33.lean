/- Stocks: a cell put behind a change. -/
import Derived.Test.YtacjonncakhhmaaGreatPz00
import Derived.Test.YtacjonncakhhmaaGreatPz31
namespace Go.Proofs.YtacjonncakhhmaaGreat
open Go.RowKit
/-- The log behind a change of a well. -/
def ptL (s : Stk) (k : Nat) (c : Cel.Ce) (b' : Int) : Int × Int × List Ch :=
 (Lg.ntR (s.ll.getD k lo0).r (s.ll.getD k lo0).l (s.ll.getD k lo0).xs b' (c.b - (s.cl.getD k ce0).b), Lg.ntM (s.ll.getD k lo0).r (s.ll.getD k lo0).l (s.ll.getD k lo0).xs b' (c.b - (s.cl.getD k ce0).b), Lg.ntZ (s.ll.getD k lo0).r (s.ll.getD k lo0).l (s.ll.getD k lo0).xs b' (c.b - (s.cl.getD k ce0).b))
theorem nt_fits {r l : Int} (xs : List Ch) (b n : Int) (hr : fits r) : fits (Lg.ntR r l xs b n) ∧ fits (Lg.ntM r l xs b n) := by
 unfold Lg.ntR Lg.ntM
 by_cases h : Lg.ntE r l xs b n = 0
 ·rw [if_pos h, if_pos h]
  have h1 := (Lg.rg_parts (Lg.nt_ok h).1).1
  unfold Lg.rgC at h1
  exact ⟨hr, by unfold fits; omega⟩
 ·rw [if_neg h, if_neg h]
  exact ⟨by decide, by decide⟩
theorem nt_len {r l : Int} (xs : List Ch) (b n : Int) : (Lg.ntZ r l xs b n).length ≤ 65 := by
 unfold Lg.ntZ
 by_cases h : Lg.ntE r l xs b n = 0
 ·rw [if_pos h]
  have h1 := (Lg.rg_parts (Lg.nt_ok h).1).1
  unfold Lg.rgC at h1
  unfold Lg.ntL
  rw [List.length_append, List.length_drop]
  simp only [List.length_cons, List.length_nil]
  omega
 ·rw [if_neg h]; exact Nat.zero_le _
set_option maxRecDepth 100000 in
set_option maxHeartbeats 4000000 in
theorem put_all (s : Stk) (d : Dk) (b' : Int) (V : World) (B D k : Nat) (c : Cel.Ce) (hM : Mine V B D s) (hT : Tl V D d b') (hk : k < s.cl.length) (hkl : k < s.ll.length) (hc : c.Fit) (hn : fits (c.b - (s.cl.getD k ce0).b)) (h1 : s.cl.length ≤ 100000) (h2 : s.ll.length ≤ 100000) :
  Calls Tryz.prog 38 #[.pointer (some ⟨D, 0, none⟩), .int .i64 k, c.v] V fun e V' => ∃ q : Lo, e = .returned (.tuple #[]) ∧ q.ab = ptL s k c b' ∧ Mine V' B D { s with ll := s.ll.set k q, cl := s.cl.set k c } ∧ Tl V' D d b' ∧ Below D V V' ∧ (∀ a u, V.cell? a = some u → some a.block ≠ bk s.cA → some a.block ≠ bk s.lA → V'.cell? a = some u) := by
 obtain ⟨ca, cb, cc⟩ := c
 have HB0 := Lib.hid (show Below D V (V.alloc (.cells #[.int .i64 ca, .int .i64 cb, .int .i64 cc] 58)) from (Below.al (Below.refl V.heap.size V) _).mono (Nat.le_of_lt hT.2.2.2.2.2))
 have hba := Below.al (Below.refl V.heap.size V) (.cells #[.int .i64 ca, .int .i64 cb, .int .i64 cc] 58)
 have HKP0 := Lib.hid (fun (a : Addr) (u : Value) (h : V.cell? a = some u) => keep_cell hba h)
 have HM := Lib.hid (hM.below hba)
 have HT := Lib.hid (hT.below hba)
 have HC := Lib.hid hc
 have HBX := Lib.hid (Cells3.new V 58 (.int .i64 ca) (.int .i64 cb) (.int .i64 cc))
 obtain ⟨gc, ec, gc1, gc2, gc3⟩ := hM.cAt (by omega)
 obtain ⟨gl, el, gl1, gl2, gl3⟩ := hM.lAt (by omega)
 have HG := Lib.hid (show B ≤ gc ∧ gc < V.heap.size ∧ s.cl.length ≤ s.cc ∧ B ≤ gl ∧ gl < V.heap.size ∧ s.ll.length ≤ s.lc ∧ D < B ∧ B ≤ V.heap.size from ⟨gc1, gc2, gc3, gl1, gl2, gl3, hM.lt, hM.le⟩)
 have HEC := Lib.hid ec
 have HEL := Lib.hid el
 have HX := Lib.hid (hM.x _ (getD_mem' s.ll k lo0 hkl))
 have HF := Lib.hid ((hM.l.isL (by omega)).2.1 _ (getD_mem' s.ll k lo0 hkl))
 have HP : Hid (∀ Q X, s.ll.getD k lo0 = Q → s.cl.getD k ce0 = X → ptL s k ⟨ca, cb, cc⟩ b' = (Lg.ntR Q.r Q.l Q.xs b' (cb - X.b), Lg.ntM Q.r Q.l Q.xs b' (cb - X.b), Lg.ntZ Q.r Q.l Q.xs b' (cb - X.b))) := Lib.hid (fun Q X e1 e2 => by subst e1; subst e2; rfl)
 have HCell := Lib.hid (fun (W : World) (h : Mine W B D s) => show W.cell? ⟨gl, k * 3, none⟩ = some (.int .i64 (s.ll.getD k lo0).r) ∧ W.cell? ⟨gl, k * 3 + 1, none⟩ = some (.int .i64 (s.ll.getD k lo0).l) ∧ W.cell? ⟨gl, k * 3 + 2, none⟩ = some (.slice (s.ll.getD k lo0).A (s.ll.getD k lo0).xs.length (s.ll.getD k lo0).c) ∧ W.frozen? ⟨gl, k * 3, none⟩ = false ∧ W.frozen? ⟨gl, k * 3 + 1, none⟩ = false ∧ W.frozen? ⟨gl, k * 3 + 2, none⟩ = false from by
  have hol := h.l
  rw [HEL.out] at hol
  exact KL.Own.at3 hol rfl k hkl)
 have HCellC := Lib.hid (fun (W : World) (h : Mine W B D s) => show W.cell? ⟨gc, k * 3 + 1, none⟩ = some (.int .i64 (s.cl.getD k ce0).b) from by
  have hoc := h.c
  rw [HEC.out] at hoc
  exact (KE.Own.at3 hoc rfl k hk).2.1)
 obtain ⟨Q, hQ⟩ : ∃ Q, s.ll.getD k lo0 = Q := ⟨_, rfl⟩
 obtain ⟨X, hX⟩ : ∃ X, s.cl.getD k ce0 = X := ⟨_, rfl⟩
 rw [hQ] at HX HF HCell
 rw [hX] at HCellC hn
 have HP := Lib.hid (HP.out Q X hQ hX)
 obtain ⟨qr, ql, qA, qc, qx⟩ := Q
 dsimp only at *
 have HN := Lib.hid (fun w h => Lg.note_all qr ql qA qc qx b' (cb - X.b) w h)
 have HNF := Lib.hid (nt_fits (l := ql) qx b' (cb - X.b) HF.out.1)
 have HNL := Lib.hid (nt_len (r := qr) (l := ql) qx b' (cb - X.b))
 generalize Lg.ntR qr ql qx b' (cb - X.b) = ZR at *
 generalize Lg.ntM qr ql qx b' (cb - X.b) = ZM at *
 generalize Lg.ntZ qr ql qx b' (cb - X.b) = ZZ at *
 generalize Lg.ntE qr ql qx b' (cb - X.b) = ZE at *
 have HHX := Lib.hid (HX.out.then hba)
 have hkc : (k : Int) < s.cl.length := by omega
 have hkL : (k : Int) < s.ll.length := by omega
 clear hM hT hc gc1 gc2 gc3 gl1 gl2 gl3 ec el hQ hX HX hba
 go_enter Tryz.func38, Tryz.ntmps38
 go_upto_region 1 with fail
 obtain ⟨Cb, hCb⟩ : ∃ Cb, V.heap.size = Cb := ⟨_, rfl⟩
 generalize V.alloc (.cells #[.int .i64 ca, .int .i64 cb, .int .i64 cc] 58) = V5 at *
 rw [hCb] at HBX HG
 try simp only [hCb]
 obtain ⟨e1, e2, e3, e4, e5⟩ : V5.drew.cell? ⟨D, 1, none⟩ = some (.slice (some ⟨gl, 0, none⟩) s.ll.length s.lc) ∧ V5.drew.cell? ⟨D, 10, none⟩ = some (.int .i64 b') ∧ V5.drew.cell? ⟨Cb, 1, none⟩ = some (.int .i64 cb) ∧ V5.drew.cell? ⟨D, 0, none⟩ = some (.slice (some ⟨gc, 0, none⟩) s.cl.length s.cc) ∧ V5.drew.cell? ⟨gc, k * 3 + 1, none⟩ = some (.int .i64 X.b) := ⟨by rw [← HEL.out]; exact HM.out.at'.2.1, HT.out.2.2.2.2.1, HBX.out.2.1, by rw [← HEC.out]; exact HM.out.at'.1, HCellC.out _ (HM.out.below (Below.refl _ _).drew)⟩
 refine wp_region_held_drew (S := fun w' => w'.cell? ⟨D, 1, none⟩ = some (.slice (some ⟨gl, 0, none⟩) s.ll.length s.lc) ∧ w'.cell? ⟨D, 10, none⟩ = some (.int .i64 b') ∧ w'.cell? ⟨Cb, 1, none⟩ = some (.int .i64 cb) ∧ w'.cell? ⟨D, 0, none⟩ = some (.slice (some ⟨gc, 0, none⟩) s.cl.length s.cc) ∧ w'.cell? ⟨gc, k * 3 + 1, none⟩ = some (.int .i64 X.b)) (by kernel_rfl) ?_ (fun hHeld => ?_)
 ·exact ⟨e1, e2, e3, e4, e5⟩
 clear e1 e2 e3 e4 e5
 have bw := (Below.refl V5.heap.size V5).drew
 have M7 := Lib.hid (HM.out.below bw)
 have T7 := Lib.hid (HT.out.below bw)
 have X7 := Lib.hid (HHX.out.then bw)
 have B7 := Lib.hid (Below.drew HB0.out)
 have HKP7 := Lib.hid (fun (a : Addr) (u : Value) (h : V.cell? a = some u) => keep_cell bw (HKP0.out a u h))
 have B7sz := Lib.hid (show V.heap.size ≤ V5.drew.heap.size by obtain ⟨_, _, _, _, _, _, h⟩ := HBX.out; have e : V5.drew.heap.size = V5.heap.size := rfl; rw [e]; omega)
 have HBX7 := Lib.hid (show Cells3 V5.drew Cb (.int .i64 ca) (.int .i64 cb) (.int .i64 cc) from HBX.out.below bw)
 clear bw HM HT HHX HB0 HKP0
 generalize V5.drew = v0 at *
 refine tk 0 7 rfl ?_
 try simp only [sp]
 refine tk 1 8 rfl ?_
 try simp only [sp]
 refine tk 2 9 rfl ?_
 try simp only [sp]
 refine tk 3 10 rfl ?_
 try simp only [sp]
 refine tk 4 11 rfl ?_
 try simp only [sp]
 refine tk 5 12 rfl ?_
 try simp only [sp]
 refine tk 6 13 rfl ?_
 try simp only [sp]
 refine tk 7 14 rfl ?_
 try simp only [sp]
 refine tk 8 15 rfl ?_
 try simp only [sp]
 refine tk 9 16 rfl ?_
 try simp only [sp]
 refine tk 10 17 rfl ?_
 try simp only [sp]
 refine tk 11 18 rfl ?_
 try simp only [sp]
 refine tk 12 19 rfl ?_
 try simp only [sp]
 refine tk 13 20 rfl ?_
 try simp only [sp]
 refine tk 14 21 rfl ?_
 try simp only [sp]
 refine tk 16 23 rfl ?_
 try simp only [sp]
 refine tk 17 24 rfl ?_
 try simp only [sp]
 refine tk 18 25 rfl ?_
 try simp only [sp]
 refine tk 19 26 rfl ?_
 try simp only [sp]
 refine tk 20 27 rfl ?_
 try simp only [sp]
 refine tk 21 28 rfl ?_
 try simp only [sp]
 refine tk 22 29 rfl ?_
 try simp only [sp]
 refine tk 23 30 rfl ?_
 try simp only [sp]
 refine tk 24 31 rfl ?_
 try simp only [sp]
 refine tk 25 32 rfl ?_
 try simp only [sp]
 refine tk 26 33 rfl ?_
 try simp only [sp]
 refine tk 27 34 rfl ?_
 try simp only [sp]
 refine tk 28 35 rfl ?_
 try simp only [sp]
 refine tk 29 36 rfl ?_
 try simp only [sp]
 refine tk 30 37 rfl ?_
 try simp only [sp]
 refine tk 31 38 rfl ?_
 try simp only [sp]
 refine tk 32 39 rfl ?_
 try simp only [sp]
 refine wpAnyH_ready (rs := [15]) (by kernel_rfl) (by simp) ?_
 refine AllReadyH.cons (o := ⟨some 22, _, _, _, _, _⟩) rfl (fun K hK => ?_) AllReadyH.nil
 obtain ⟨r0, r1, r2, _⟩ := HCell.out _ M7.out
 go_simp
 clear r0 r1 r2
 refine hK.out _ _ hHeld (fun hHeld => ?_)
 clear hK K
 try simp only [sp]
 refine wpAnyH_ready (rs := [33]) (by kernel_rfl) (by simp) ?_
 refine AllReadyH.cons (o := ⟨some 40, _, _, _, _, _⟩) rfl (fun K hK => ?_) AllReadyH.nil
 --CUT1
 go_simp
 rw [wrap_fits _ hn]
 --CUT2
 refine (HN.out _ X7.out).mono ?_
 rintro e v1 ⟨A', c', rfl, ho, hb⟩
 have hV0 : V.heap.size ≤ v0.heap.size := B7sz.out
 have M8 := Lib.hid (M7.out.below hb)
 have T8 := Lib.hid (T7.out.below hb)
 have B8 := Lib.hid (B7.out.trans (hb.mono (by have := T7.out.2.2.2.2.2; omega)))
 have P8 := Lib.hid (HBX7.out.below hb)
 have HKP8 := Lib.hid (fun (a : Addr) (u : Value) (h : V.cell? a = some u) => keep_cell hb (HKP7.out a u h))
 have O8 := Lib.hid ho
 have L8 := Lib.hid hb.size
 obtain ⟨f1, f2, f3, f4, f5⟩ := hHeld
 have hH := And.intro (keep_cell hb f1) (And.intro (keep_cell hb f2) (And.intro (keep_cell hb f3) (And.intro (keep_cell hb f4) (keep_cell hb f5))))
 clear f1 f2 f3 f4 f5
 have HY := Lib.hid (show ∀ a, A' = some a → some a.block ≠ bk s.cA ∧ some a.block ≠ bk s.lA ∧ some a.block ≠ bk s.tA ∧ B ≤ a.block from fun a ha => by
  have h := (ho.lt a.block (bk_own (by rw [ha]; rfl))).1
  refine ⟨fun e => ?_, fun e => ?_, fun e => ?_, Nat.le_trans M7.out.le h⟩
  ·have := (M7.out.c.lt a.block (bk_own e.symm)).2; omega
  ·have := (M7.out.l.lt a.block (bk_own e.symm)).2; omega
  ·have := (M7.out.t.lt a.block (bk_own e.symm)).2; omega)
 --CUT3
 go_wp2_with fail
 clear ho hb M7 T7 B7 HKP7
 --CUT4
 refine hK.out _ _ hH (fun hHeld => ?_)
 clear hK K
 clear hH
 try simp only [sp]
 refine tk 34 6 rfl ?_
 try simp only [sp]
 refine tk 35 41 rfl ?_
 try simp only [sp]
 refine tk 36 42 rfl ?_
 try simp only [sp]
 refine tk 37 43 rfl ?_
 try simp only [sp]
 refine wpAnyH_ready (rs := [38]) (by kernel_rfl) (by simp) ?_
 refine AllReadyH.cons (o := ⟨none, _, _, _, _, _⟩) rfl (fun K hK => ?_) AllReadyH.nil
 obtain ⟨r0, r1, r2, y0, y1, y2⟩ := HCell.out _ M8.out
 go_simp
 clear r0 r1 r2 y0 y1 y2
 have hDg : gl ≠ D := by have := HG.out; omega
 have hCg : gl ≠ Cb := by have := HG.out; omega
 have hcg : gc ≠ gl := fun e => M8.out.n1 gc (by rw [HEC.out]; rfl) (by rw [HEL.out, e]; rfl)
 have M9 := Lib.hid (M8.out.putL k hkl gl HEL.out ⟨ZR, ZM, A', c', ZZ⟩ HNF.out (O8.out.isL (by have := HNL.out; omega)) HY.out)
 have T9 := Lib.hid (((T8.out.off (g := gl) (o := k * 3) (.inl hDg) (.int .i64 ZR)).off (g := gl) (o := k * 3 + 1) (.inl hDg) (.int .i64 ZM)).off (g := gl) (o := k * 3 + 2) (.inl hDg) (.slice A' ZZ.length c'))
 have P9 := Lib.hid (((P8.out.off (D := gl) (o := k * 3) hCg (.int .i64 ZR)).off (D := gl) (o := k * 3 + 1) hCg (.int .i64 ZM)).off (D := gl) (o := k * 3 + 2) hCg (.slice A' ZZ.length c'))
 have B9 := Lib.hid (show Below D V (((v1.setCell ⟨gl, k * 3, none⟩ (.int .i64 ZR)).setCell ⟨gl, k * 3 + 1, none⟩ (.int .i64 ZM)).setCell ⟨gl, k * 3 + 2, none⟩ (.slice A' ZZ.length c')) from ((B8.out.setCell (by show D ≤ gl; have := HG.out; omega) _).setCell (by show D ≤ gl; have := HG.out; omega) _).setCell (by show D ≤ gl; have := HG.out; omega) _)
 have st3 : ∀ a u, v1.cell? a = some u → gl ≠ a.block → (((v1.setCell ⟨gl, k * 3, none⟩ (.int .i64 ZR)).setCell ⟨gl, k * 3 + 1, none⟩ (.int .i64 ZM)).setCell ⟨gl, k * 3 + 2, none⟩ (.slice A' ZZ.length c')).cell? a = some u := fun a u h hne => st_other (st_other (st_other h (fun e => hne (by rw [← e]))) (fun e => hne (by rw [← e]))) (fun e => hne (by rw [← e]))
 have HKP9 := Lib.hid (fun (a : Addr) (u : Value) (h : V.cell? a = some u) (n2 : some a.block ≠ bk s.lA) => st3 a u (HKP8.out a u h) (fun e => n2 (by rw [HEL.out, ← e]; rfl)))
 obtain ⟨f1, f2, f3, f4, f5⟩ := hHeld
 have hH2 := And.intro (st3 _ _ f1 hDg) (And.intro (st3 _ _ f2 hDg) (And.intro (st3 _ _ f3 hCg) (And.intro (st3 _ _ f4 hDg) (st3 _ _ f5 hcg.symm))))
 clear f1 f2 f3 f4 f5
 refine hK.out _ _ hH2 (fun hHeld => ?_)
 clear hK K
 clear hH2 hHeld st3 hDg hCg hcg M8 T8 P8 B8 HKP8
 try simp only [sp]
 refine wpAnyH_done (by kernel_rfl) ?_ _
 have M9 : Hid (Mine (((v1.setCell ⟨gl, k * 3, none⟩ (.int .i64 ZR)).setCell ⟨gl, k * 3 + 1, none⟩ (.int .i64 ZM)).setCell ⟨gl, k * 3 + 2, none⟩ (.slice A' ZZ.length c')) B D { s with ll := s.ll.set k ⟨ZR, ZM, A', c', ZZ⟩ }) := M9
 generalize (((v1.setCell ⟨gl, k * 3, none⟩ (.int .i64 ZR)).setCell ⟨gl, k * 3 + 1, none⟩ (.int .i64 ZM)).setCell ⟨gl, k * 3 + 2, none⟩ (.slice A' ZZ.length c')) = vx at *
 --CUT5
 go_wp2
 obtain ⟨e1, e2, e3, e4⟩ : vx.drew.cell? ⟨D, 0, none⟩ = some (.slice (some ⟨gc, 0, none⟩) s.cl.length s.cc) ∧ vx.drew.cell? ⟨Cb, 0, none⟩ = some (.int .i64 ca) ∧ vx.drew.cell? ⟨Cb, 1, none⟩ = some (.int .i64 cb) ∧ vx.drew.cell? ⟨Cb, 2, none⟩ = some (.int .i64 cc) := ⟨by rw [← HEC.out]; exact M9.out.at'.1, P9.out.1, P9.out.2.1, P9.out.2.2.1⟩
 refine wp_region_held_drew (S := fun w' => w'.cell? ⟨D, 0, none⟩ = some (.slice (some ⟨gc, 0, none⟩) s.cl.length s.cc) ∧ w'.cell? ⟨Cb, 0, none⟩ = some (.int .i64 ca) ∧ w'.cell? ⟨Cb, 1, none⟩ = some (.int .i64 cb) ∧ w'.cell? ⟨Cb, 2, none⟩ = some (.int .i64 cc)) (by kernel_rfl) ?_ (fun hHeld => ?_)
 ·exact ⟨e1, e2, e3, e4⟩
 clear e1 e2 e3 e4
 have bw := (Below.refl vx.heap.size vx).drew
 have MA := Lib.hid (M9.out.below bw)
 have TA := Lib.hid (T9.out.below bw)
 have PA := Lib.hid (P9.out.below bw)
 have BA := Lib.hid (Below.drew B9.out)
 have HKPA := Lib.hid (fun (a : Addr) (u : Value) (h : V.cell? a = some u) (n2 : some a.block ≠ bk s.lA) => keep_cell bw (HKP9.out a u h n2))
 clear bw M9 T9 P9 B9 HKP9
 generalize vx.drew = vy at *
 refine tk 0 44 rfl ?_
 try simp only [sp]
 refine tk 1 45 rfl ?_
 try simp only [sp]
 refine tk 2 46 rfl ?_
 try simp only [sp]
 refine tk 3 47 rfl ?_
 try simp only [sp]
 refine tk 4 48 rfl ?_
 try simp only [sp]
 refine tk 5 49 rfl ?_
 try simp only [sp]
 refine tk 6 50 rfl ?_
 try simp only [sp]
 refine tk 7 51 rfl ?_
 try simp only [sp]
 refine tk 8 52 rfl ?_
 try simp only [sp]
 refine wpAnyH_ready (rs := [9]) (by kernel_rfl) (by simp) ?_
 refine AllReadyH.cons (o := ⟨none, _, _, _, _, _⟩) rfl (fun K hK => ?_) AllReadyH.nil
 have hoc := MA.out.c
 rw [show ({ s with ll := s.ll.set k ⟨ZR, ZM, A', c', ZZ⟩ } : Stk).cA = some ⟨gc, 0, none⟩ from HEC.out] at hoc
 obtain ⟨q0, q1, q2, y0, y1, y2⟩ := KE.Own.at3 hoc rfl k hk
 dsimp only at q0 q1 q2
 clear hoc
 go_simp
 clear q0 q1 q2 y0 y1 y2
 have hDg : gc ≠ D := by have := HG.out; omega
 have hCg : gc ≠ Cb := by have := HG.out; omega
 have st3 : ∀ a u, vy.cell? a = some u → gc ≠ a.block → (((vy.setCell ⟨gc, k * 3, none⟩ (.int .i64 ca)).setCell ⟨gc, k * 3 + 1, none⟩ (.int .i64 cb)).setCell ⟨gc, k * 3 + 2, none⟩ (.int .i64 cc)).cell? a = some u := fun a u h hne => st_other (st_other (st_other h (fun e => hne (by rw [← e]))) (fun e => hne (by rw [← e]))) (fun e => hne (by rw [← e]))
 have HKPB := Lib.hid (fun (a : Addr) (u : Value) (h : V.cell? a = some u) (n1 : some a.block ≠ bk s.cA) (n2 : some a.block ≠ bk s.lA) => st3 a u (HKPA.out a u h n2) (fun e => n1 (by rw [HEC.out, ← e]; rfl)))
 obtain ⟨f1, f2, f3, f4⟩ := hHeld
 have hH2 := And.intro (st3 _ _ f1 hDg) (And.intro (st3 _ _ f2 hCg) (And.intro (st3 _ _ f3 hCg) (st3 _ _ f4 hCg)))
 clear f1 f2 f3 f4
 refine hK.out _ _ hH2 (fun hHeld => ?_)
 clear hK K
 clear hH2 hHeld st3
 try simp only [sp]
 refine wpAnyH_done (by kernel_rfl) ?_ _
 go_wp2
 --CUT6
 go_end0
 ·refine ⟨⟨ZR, ZM, A', c', ZZ⟩, rfl, HP.out.symm, MA.out.putC k hk gc HEC.out ⟨ca, cb, cc⟩ HC.out, ((TA.out.off (g := gc) (.inl hDg) _).off (g := gc) (.inl hDg) _).off (g := gc) (.inl hDg) _, ?_, HKPB.out⟩
  exact ((BA.out.setCell (by show D ≤ gc; have := HG.out; omega) _).setCell (by show D ≤ gc; have := HG.out; omega) _).setCell (by show D ≤ gc; have := HG.out; omega) _
theorem put_any (s : Stk) (d : Dk) (b' : Int) (V : World) (B D k : Nat) (c : Cel.Ce) (hM : Mine V B D s) (hT : Tl V D d b') (hk : k < s.cl.length) (hkl : k < s.ll.length) (hc : c.Fit) (hn : fits (c.b - (s.cl.getD k ce0).b)) (h1 : s.cl.length ≤ 100000) (h2 : s.ll.length ≤ 100000) :
  Calls Tryz.prog 38 #[.pointer (some ⟨D, 0, none⟩), .int .i64 k, c.v] V fun e V' => ∃ q : Lo, e = .returned (.tuple #[]) ∧ q.ab = ptL s k c b' ∧ Mine V' B D { s with ll := s.ll.set k q, cl := s.cl.set k c } ∧ Tl V' D d b' ∧ Below D V V' := by
 refine (put_all s d b' V B D k c hM hT hk hkl hc hn h1 h2).mono ?_
 rintro e V' ⟨q, h⟩
 exact ⟨q, h.1, h.2.1, h.2.2.1, h.2.2.2.1, h.2.2.2.2.1⟩
end Go.Proofs.YtacjonncakhhmaaGreat
