/- Stocks: a copy, by the reference. -/
import Derived.Test.YtacjonncakhhmaaGreatPz00
import Derived.Test.YtacjonncakhhmaaGreatPz31
import Derived.Test.YtacjonncakhhmaaGreatPz30
import Derived.Deep.CutRange
namespace Go.Proofs.YtacjonncakhhmaaGreat
open Go.RowKit
set_option maxRecDepth 100000 in
set_option maxHeartbeats 4000000 in
theorem rcopy_any (s : Stk) (w : World) (hs : s.In w w.heap.size) (hl1 : s.cl.length ≤ 100000) (hl2 : s.ll.length ≤ 100000) (hl3 : s.tl.length ≤ 100000) (hl4 : ∀ q ∈ s.ll, q.xs.length ≤ 100000) :
  Calls Tryz.prog 7 #[s.v] w fun e w' => ∃ t : Stk, e = .returned t.v ∧ t.ab = s.ab ∧ Rw w' w.heap.size t ∧ Below w.heap.size w w' ∧ (∀ q ∈ t.ll, ∀ a, q.A = some a → a.block < w'.heap.size) := by
 have HI := Lib.hid (fun W (hb : Below w.heap.size w W) => (hs.below hb).more hb.size)
 obtain ⟨cA, cc, cl, lA, lc, ll, tA, tc, tl, st, inn, out⟩ := s
 have HF := Lib.hid hs.f
 have HL := Lib.hid (And.intro hl1 (And.intro hl2 hl3))
 have HL4 := Lib.hid hl4
 dsimp only at HI HF HL HL4 hl1 hl2 hl3
 clear hs hl4
 obtain ⟨w0, hw0⟩ : ∃ w0, w0 = ((w.alloc (.cells #[.slice cA cl.length cc, .slice lA ll.length lc, .slice tA tl.length tc, .int .i64 st, .int .i64 inn, .int .i64 out] 31)).alloc (.cells #[.slice none 0 0, .slice none 0 0, .slice none 0 0, .int .i64 0, .int .i64 0, .int .i64 0] 31)) := ⟨_, rfl⟩
 obtain ⟨Gs, hGs⟩ : ∃ Gs, Gs = w.heap.size := ⟨_, rfl⟩
 have HB0 := Lib.hid (show Below w.heap.size w w0 by rw [hw0]; exact Below.al (Below.al (Below.refl _ _) _) _)
 have HS0 := Lib.hid (show Cells6 w0 Gs (.slice cA cl.length cc) (.slice lA ll.length lc) (.slice tA tl.length tc) (.int .i64 st) (.int .i64 inn) (.int .i64 out) by rw [hw0, hGs]; exact (Cells6.new w _ _ _ _ _ _ _).below (Below.al (Below.refl _ _) _))
 have HR0 := Lib.hid (show Cells6 w0 (w.heap.size + 1) (.slice none 0 0) (.slice none 0 0) (.slice none 0 0) (.int .i64 0) (.int .i64 0) (.int .i64 0) by
  have e : (w.alloc (.cells #[.slice cA cl.length cc, .slice lA ll.length lc, .slice tA tl.length tc, .int .i64 st, .int .i64 inn, .int .i64 out] 31)).heap.size = w.heap.size + 1 := by simp
  rw [hw0, ← e]
  exact Cells6.new _ _ _ _ _ _ _ _)
 obtain ⟨Gr, hGr⟩ : ∃ Gr, Gr = w.heap.size + 1 := ⟨_, rfl⟩
 have HZ := Lib.hid (show w0.heap.size = w.heap.size + 2 ∧ Gs = w.heap.size ∧ Gr = w.heap.size + 1 from ⟨by rw [hw0]; simp, hGs, hGr⟩)
 rw [← hGr] at HR0
 obtain ⟨a0, -, -, -, -, -, z0, -⟩ := HS0.out
 rw [hw0, hGs] at a0 z0
 go_enter Tryz.func7, Tryz.ntmps7
 go_upto_region 1 with fail
 rw [← hw0]
 try rw [← hGr]
 try rw [← hGs]
 clear hw0 hGs hGr a0 z0
 have hba := Below.al (Below.refl w0.heap.size w0) (.cells #[] 58)
 obtain ⟨a0, -⟩ := HS0.out.below hba
 go_wp2_with (at_builtin; refine Lk.wpList_app (K := KE) _ rfl _ _ rfl rfl w0.heap.size (w0.alloc (.cells #[] 58)).heap.size _ _ [] cl rfl rfl (Lk.Own.made (K := KE) w0 w0.heap.size 0 #[] (Nat.le_refl _) (by unfold maxLen; omega) (by simp)) ((HI.out w0 HB0.out).c.then hba) ?c1 ?c2 ?_)
 case c1 => simp only [List.length_nil]; omega
 case c2 => exact hba.size
 intro va v1 ho hg hat
 have HB1 := Lib.hid (show Below w0.heap.size w0 v1 from Lk.Own.grow' (Lk.Own.made (K := KE) w0 w0.heap.size 0 #[] (Nat.le_refl _) (by unfold maxLen; omega) (by simp)) hba hba.size hg)
 obtain ⟨cA', cc', rfl, -⟩ := ((show KE.Own v1 w0.heap.size va cl from ho).isL (by omega)).shape
 have HO1 := Lib.hid (show KE.Own v1 w0.heap.size (.slice cA' cl.length cc') cl from ho)
 have HS1 := Lib.hid (HS0.out.below HB1.out)
 have HR1 := Lib.hid (HR0.out.below HB1.out)
 clear ho hg hat hba a0
 obtain ⟨a0, a1, a2, a3, a4, a5, y0, -⟩ := HS1.out
 have hfa : ∀ b, w0.heap.size ≤ b → b ≠ Gs ∧ b ≠ Gr := fun b h => by have := HZ.out; omega
 have HFA := Lib.hid hfa
 clear hfa
 go_upto_region 2 with fail
 --CUT1
 clear a0 a1 a2 a3 a4 a5 y0
 have HS2 := Lib.hid (HS1.out.s (.slice cA' cl.length cc')).1
 have HR2 := Lib.hid (HR1.out.off (D := Gs) (o := 0) (by have := HZ.out; omega) (.slice cA' cl.length cc'))
 have HO2 := Lib.hid (HO1.out.far (D := Gs) (fun b hb => (HFA.out b (HO1.out.lt b hb).1).1) 0 (.slice cA' cl.length cc'))
 have HBW2 := Lib.hid (show Below w.heap.size w (v1.setCell ⟨Gs, 0, none⟩ (.slice cA' cl.length cc')) from (HB0.out.trans (HB1.out.mono HB0.out.size)).setCell (by have := HZ.out; show w.heap.size ≤ Gs; omega) _)
 have HZ2 := Lib.hid (show w0.heap.size ≤ (v1.setCell ⟨Gs, 0, none⟩ (.slice cA' cl.length cc')).heap.size by have := HB1.out.size; simpa using this)
 clear HB1 HS1 HR1 HO1
 generalize v1.setCell ⟨Gs, 0, none⟩ (.slice cA' cl.length cc') = v2 at *
 have hba := Below.al (Below.refl v2.heap.size v2) (.cells #[] 50)
 obtain ⟨-, a1, -⟩ := HS2.out.below hba
 go_wp2_with (at_builtin; refine Lk.wpList_app (K := KL) _ rfl _ _ rfl rfl v2.heap.size (v2.alloc (.cells #[] 50)).heap.size _ _ [] ll rfl rfl (Lk.Own.made (K := KL) v2 v2.heap.size 0 #[] (Nat.le_refl _) (by unfold maxLen; omega) (by simp)) ((HI.out v2 HBW2.out).l.then hba) ?c1 ?c2 ?_)
 case c1 => simp only [List.length_nil]; omega
 case c2 => exact hba.size
 intro va v3 ho hg hat
 have HB3 := Lib.hid (show Below v2.heap.size v2 v3 from Lk.Own.grow' (Lk.Own.made (K := KL) v2 v2.heap.size 0 #[] (Nat.le_refl _) (by unfold maxLen; omega) (by simp)) hba hba.size hg)
 obtain ⟨lA', lc', rfl, -⟩ := ((show KL.Own v3 v2.heap.size va ll from ho).isL (by omega)).shape
 have HP3 := Lib.hid (show KL.Own v3 w0.heap.size (.slice lA' ll.length lc') ll from Lk.Own.mono (show KL.Own v3 v2.heap.size (.slice lA' ll.length lc') ll from ho) HZ2.out)
 have HN3 := Lib.hid (show ∀ b, bk cA' = some b → bk lA' ≠ some b from fun b h1 h2 => by
  have a1 := (HO2.out.lt b (bk_own h1)).2
  have a2 := (Lk.Own.lt (show KL.Own v3 v2.heap.size (.slice lA' ll.length lc') ll from ho) b (bk_own h2)).1
  omega)
 have HS3 := Lib.hid (HS2.out.below HB3.out)
 have HR3 := Lib.hid (HR2.out.below HB3.out)
 have HO3 := Lib.hid (HO2.out.below HB3.out)
 have HBW3 := Lib.hid (HBW2.out.trans (HB3.out.mono HBW2.out.size))
 have HZ3 := Lib.hid (Nat.le_trans HZ2.out HB3.out.size)
 clear ho hg hat hba a1 HS2 HR2 HO2 HBW2 HB3 HZ2
 obtain ⟨a0, a1, a2, a3, a4, a5, -, y1, -⟩ := HS3.out
 go_upto_region 3 with fail
 --CUT2
 clear a0 a1 a2 a3 a4 a5 y1
 have HS4 := Lib.hid (HS3.out.s (.slice lA' ll.length lc')).2.1
 have HR4 := Lib.hid (HR3.out.off (D := Gs) (o := 1) (by have := HZ.out; omega) (.slice lA' ll.length lc'))
 have HO4 := Lib.hid (HO3.out.far (D := Gs) (fun b hb => (HFA.out b (HO3.out.lt b hb).1).1) 1 (.slice lA' ll.length lc'))
 have HP4 := Lib.hid (HP3.out.far (D := Gs) (fun b hb => (HFA.out b (HP3.out.lt b hb).1).1) 1 (.slice lA' ll.length lc'))
 have HB4 := Lib.hid (show Below w.heap.size w (v3.setCell ⟨Gs, 1, none⟩ (.slice lA' ll.length lc')) from HBW3.out.setCell (by have := HZ.out; show w.heap.size ≤ Gs; omega) _)
 have HZ4 := Lib.hid (show w0.heap.size ≤ (v3.setCell ⟨Gs, 1, none⟩ (.slice lA' ll.length lc')).heap.size by have := HZ3.out; simpa using this)
 clear HS3 HR3 HO3 HP3 HBW3 HZ3
 generalize v3.setCell ⟨Gs, 1, none⟩ (.slice lA' ll.length lc') = v4 at *
 have hll9 : ll.length ≤ 9223372036854775807 := by omega
 go_wp2_with fail
 go_loopw [3] (fun i wr => ∃ (k : Nat) (LL : List Lo), i = .int .i64 k ∧ k ≤ ll.length ∧ Hid (LL.length = ll.length ∧ LL.map Lo.ab = ll.map Lo.ab ∧ ∀ j, k ≤ j → LL.getD j lo0 = ll.getD j lo0) ∧ Hid (Cells6 wr Gs (.slice cA' cl.length cc') (.slice lA' ll.length lc') (.slice tA tl.length tc) (.int .i64 st) (.int .i64 inn) (.int .i64 out)) ∧
   Hid (Cells6 wr Gr (.slice none 0 0) (.slice none 0 0) (.slice none 0 0) (.int .i64 0) (.int .i64 0) (.int .i64 0)) ∧ Hid (KE.Own wr w0.heap.size (.slice cA' cl.length cc') cl) ∧ Hid (KL.Own wr w0.heap.size (.slice lA' ll.length lc') LL) ∧
   Hid (∀ j, j < k → KC.IsL wr wr.heap.size (.slice (LL.getD j lo0).A (LL.getD j lo0).xs.length (LL.getD j lo0).c) (LL.getD j lo0).xs ∧ ∀ a, (LL.getD j lo0).A = some a → some a.block ≠ bk cA' ∧ some a.block ≠ bk lA' ∧ w0.heap.size ≤ a.block ∧ a.block < wr.heap.size) ∧ Hid (Below w.heap.size w wr) ∧ Hid (w0.heap.size ≤ wr.heap.size)) (fun i _ => ll.length - (intOf i).toNat)
 case atStart => exact ⟨0, ll, rfl, Nat.zero_le _, Lib.hid ⟨rfl, rfl, fun _ _ => rfl⟩, HS4, HR4, HO4, HP4, Lib.hid (fun j hj => absurd hj (Nat.not_lt_zero _)), HB4, HZ4⟩
 case round =>
  clear HS4 HR4 HO4 HP4 HB4 HZ4
  obtain ⟨k, LL, rfl, hk, hLL, hS, hR, hO, hP, hX, hB, hZ9⟩ := hrel
  have HLL := Lib.hid hLL.out
  have HS5 := Lib.hid hS.out
  have HR5 := Lib.hid hR.out
  have HO5 := Lib.hid hO.out
  have HP5 := Lib.hid hP.out
  have HX5 := Lib.hid hX.out
  have HB5 := Lib.hid hB.out
  have HZ5 := Lib.hid hZ9.out
  clear hLL hS hR hO hP hX hB hZ9
  obtain ⟨-, g1, -⟩ := HS5.out
  by_cases hlt : k < ll.length
  ·have hPl : LL.length = ll.length := HLL.out.1
   obtain ⟨gl, cpl, hvl, hg1, hg2, hg3⟩ := HP5.out.shape (by omega)
   rw [hPl] at hvl hg3
   simp only [Value.slice.injEq] at hvl
   obtain ⟨rfl, -, rfl⟩ := hvl
   obtain ⟨-, -, q2, -, -, y2⟩ := KL.Own.at3 HP5.out hPl k hlt
   have hgk : LL.getD k lo0 = ll.getD k lo0 := HLL.out.2.2 k (Nat.le_refl _)
   rw [hgk] at q2
   have HQX := Lib.hid ((HI.out wr HB5.out).x _ (getD_mem' ll k lo0 hlt))
   have HQ4 := Lib.hid (HL4.out _ (getD_mem' ll k lo0 hlt))
   have HQF := Lib.hid ((HI.out wr HB5.out).l.2.1 _ (getD_mem' ll k lo0 hlt))
   have HGK := Lib.hid hgk
   have HMAP := Lib.hid (fun q hq => map_getD_ab LL ll HLL.out.2.1 k q (by omega) hq)
   clear hgk
   obtain ⟨Q, hQ⟩ : ∃ Q, ll.getD k lo0 = Q := ⟨_, rfl⟩
   rw [hQ] at q2 HQX HQ4 HQF HGK HMAP
   clear hQ
   obtain ⟨qr, ql, qA, qc, qx⟩ := Q
   dsimp only at q2 HQX HQ4 HQF HGK HMAP
   have HGS := Lib.hid (show gl ≠ Gs from (HFA.out gl hg1).1)
   have HS6 := Lib.hid (show ∀ W, Below wr.heap.size wr W → W.cell? ⟨Gs, 1, none⟩ = some (.slice (some ⟨gl, 0, none⟩) ll.length lc') ∧ W.cell? ⟨gl, k * 3 + 2, none⟩ = some (.slice qA qx.length qc) from fun W h => ⟨keep_cell h g1, keep_cell h q2⟩)
   have HW6 := Lib.hid (show ∀ W, Below wr.heap.size wr W → W.cell? ⟨gl, k * 3 + 2, none⟩ = some (.slice qA qx.length qc) ∧ W.frozen? ⟨gl, k * 3 + 2, none⟩ = false from fun W h => ⟨keep_cell h q2, by rw [h.frozen (p := ⟨gl, k * 3 + 2, none⟩) hg2]; exact y2⟩)
   have hki : (k : Int) < ll.length := by omega
   have HG1 := Lib.hid (And.intro hg1 hg2)
   go_upto_region 6 with fail
   clear q2 y2 g1
   --CUT3
   refine wp_region_held_drew (S := fun w' => w'.cell? ⟨Gs, 1, none⟩ = some (Value.slice (some ⟨gl, 0, none⟩) ll.length lc')) (by kernel_rfl) ?_ (fun hHeld => ?_)
   ·exact (HS6.out _ (Below.refl _ _).drew).1
   have BB0 := Lib.hid (show Below wr.heap.size wr wr.drew from (Below.refl _ _).drew)
   generalize wr.drew = p0 at *
   refine tk 0 21 rfl ?_
   try simp only [sp]
   refine tk 1 22 rfl ?_
   try simp only [sp]
   refine tk 2 23 rfl ?_
   try simp only [sp]
   refine tk 4 25 rfl ?_
   try simp only [sp]
   refine tk 5 26 rfl ?_
   try simp only [sp]
   refine tk 6 27 rfl ?_
   try simp only [sp]
   refine tk 7 28 rfl ?_
   try simp only [sp]
   refine tk 8 29 rfl ?_
   try simp only [sp]
   refine wpAnyH_ready (rs := [3, 9]) (by kernel_rfl) (by simp) ?_
   refine AllReadyH.cons (o := ⟨some 24, _, _, _, _, _⟩) rfl (fun K hK => ?_) ?_
   ·go_simp
    have hb := Below.al (Below.refl _ p0) (.cells #[] 128)
    have BB1 := Lib.hid (BB0.out.trans (hb.mono BB0.out.size))
    have QO1 := Lib.hid (show KC.Own (p0.alloc (.cells #[] 128)) wr.heap.size (.slice (some ⟨p0.heap.size, 0, none⟩) 0 0) [] from Lk.Own.made (K := KC) p0 wr.heap.size 0 #[] BB0.out.size (by unfold maxLen; omega) (by simp))
    clear hb BB0 hHeld
    generalize p0.alloc (.cells #[] 128) = p1 at *
    generalize p0.heap.size = QH1 at *
    refine hK.out _ _ (HS6.out _ BB1.out).1 (fun hHeld => ?_)
    clear hK K
    try simp only [sp]
    refine wpAnyH_ready (rs := [9]) (by kernel_rfl) (by simp) ?_
    refine AllReadyH.cons (o := ⟨some 30, _, _, _, _, _⟩) rfl (fun K hK => ?_) AllReadyH.nil
    obtain ⟨-, z0⟩ := HS6.out _ BB1.out
    go_simp
    clear z0 hHeld
    refine hK.out _ _ (HS6.out _ BB1.out).1 (fun hHeld => ?_)
    clear hK K
    try simp only [sp]
    refine wpAnyH_ready (rs := [10]) (by kernel_rfl) (by simp) ?_
    refine AllReadyH.cons (o := ⟨some 31, _, _, _, _, _⟩) rfl (fun K hK => ?_) AllReadyH.nil
    refine Lk.wp_app (K := KC) p1 _ _ rfl rfl wr.heap.size wr.heap.size _ (.slice qA qx.length qc) [] qx rfl rfl QO1.out (HQX.out.below BB1.out) ?_ BB1.out.size ?_
    ·have := HQ4.out; simp only [List.length_nil]; omega
    intro va p2 ho hg hat
    obtain ⟨qB, qd, rfl, -⟩ := ((show KC.Own p2 wr.heap.size va qx from ho).isL (by have := HQ4.out; omega)).shape
    have BB2 := Lib.hid (Lk.Own.grow' QO1.out BB1.out BB1.out.size hg)
    have QO2 := Lib.hid (show KC.Own p2 wr.heap.size (.slice qB qx.length qd) qx from ho)
    clear ho hg hat QO1 BB1 hHeld
    refine hK.out _ _ (HS6.out _ BB2.out).1 (fun hHeld => ?_)
    clear hK K
    try simp only [sp]
    refine tk 11 32 rfl ?_
    try simp only [sp]
    refine tk 12 33 rfl ?_
    try simp only [sp]
    refine wpAnyH_ready (rs := [13]) (by kernel_rfl) (by simp) ?_
    refine AllReadyH.cons (o := ⟨none, _, _, _, _, _⟩) rfl (fun K hK => ?_) AllReadyH.nil
    obtain ⟨z0, y0⟩ := HW6.out _ BB2.out
    go_simp
    clear z0 y0 hHeld
    have hH := st_other (a := ⟨gl, k * 3 + 2, none⟩) (v := .slice qB qx.length qd) (HS6.out _ BB2.out).1 (fun e => HGS.out (congrArg Addr.block e))
    have hPl : LL.length = ll.length := HLL.out.1
    have hxa : ∀ a, qB = some a → wr.heap.size ≤ a.block ∧ a.block < p2.heap.size := fun a ha => QO2.out.lt a.block (bk_own (by rw [ha]; rfl))
    have hg0 : gl < wr.heap.size := HG1.out.2
    have XN := Lib.hid (show KC.IsL p2 p2.heap.size (.slice qB qx.length qd) qx ∧ ∀ a, qB = some a → some a.block ≠ bk cA' ∧ some a.block ≠ bk (some ⟨gl, 0, none⟩) ∧ w0.heap.size ≤ a.block ∧ a.block < p2.heap.size from ⟨QO2.out.isL (by have := HQ4.out; omega), fun a ha => ⟨fun e => by
      have h1 := (HO5.out.lt a.block (bk_own e.symm)).2
      have h2 := (hxa a ha).1
      omega, fun e => by
      have h3 : gl = a.block := by simpa [bk] using e.symm
      have h2 := (hxa a ha).1
      omega, by have h2 := (hxa a ha).1; have := HZ5.out; omega, (hxa a ha).2⟩⟩)
    have S8 := Lib.hid (HS5.out.below BB2.out)
    have R8 := Lib.hid (HR5.out.below BB2.out)
    have O8 := Lib.hid (HO5.out.below BB2.out)
    have P8 := Lib.hid (HP5.out.below BB2.out)
    have X8 := Lib.hid (show ∀ j, j < k → KC.IsL p2 p2.heap.size (.slice (LL.getD j lo0).A (LL.getD j lo0).xs.length (LL.getD j lo0).c) (LL.getD j lo0).xs ∧ ∀ a, (LL.getD j lo0).A = some a → some a.block ≠ bk cA' ∧ some a.block ≠ bk (some ⟨gl, 0, none⟩) ∧ w0.heap.size ≤ a.block ∧ a.block < p2.heap.size from fun j hj => ⟨(HX5.out j hj).1.then BB2.out, fun a ha => ⟨((HX5.out j hj).2 a ha).1, ((HX5.out j hj).2 a ha).2.1, ((HX5.out j hj).2 a ha).2.2.1, Nat.lt_of_lt_of_le ((HX5.out j hj).2 a ha).2.2.2 BB2.out.size⟩⟩)
    have S9 := Lib.hid (S8.out.off HGS.out (o := k * 3 + 2) (.slice qB qx.length qd))
    have R9 := Lib.hid (R8.out.off (HFA.out gl HG1.out.1).2 (o := k * 3 + 2) (.slice qB qx.length qd))
    have O9 := Lib.hid (O8.out.far (D := gl) (fun b hb e => HN3.out b (own_bk hb) (by rw [e]; rfl)) (k * 3 + 2) (.slice qB qx.length qd))
    have P9 := Lib.hid (show KL.Own (p2.setCell ⟨gl, k * 3 + 2, none⟩ (.slice qB qx.length qd)) w0.heap.size (.slice (some ⟨gl, 0, none⟩) ll.length lc') (LL.set k ⟨qr, ql, qB, qd, qx⟩) from P8.out.put3c (K := KL) rfl hPl k hlt ⟨qr, ql, qB, qd, qx⟩ (.int .i64 qr) (.int .i64 ql) (.slice qB qx.length qd) (.slice qA qx.length qc) (by show loCells (LL.getD k lo0) = _; rw [HGK.out]; rfl) rfl HQF.out)
    have B9 := Lib.hid (show Below w.heap.size w (p2.setCell ⟨gl, k * 3 + 2, none⟩ (.slice qB qx.length qd)) from (HB5.out.trans (BB2.out.mono HB5.out.size)).setCell (by have := HG1.out; have := HZ.out; show w.heap.size ≤ gl; omega) _)
    have Z9 := Lib.hid (show w0.heap.size ≤ (p2.setCell ⟨gl, k * 3 + 2, none⟩ (.slice qB qx.length qd)).heap.size by have h1 := HZ5.out; have h2 := BB2.out.size; simp; omega)
    have hfarG : ∀ (A : Option Addr) (n c : Nat) (xs : List Ch), KC.IsL p2 p2.heap.size (.slice A n c) xs → (∀ a, A = some a → some a.block ≠ bk (some ⟨gl, 0, none⟩)) → KC.IsL (p2.setCell ⟨gl, k * 3 + 2, none⟩ (.slice qB qx.length qd)) (p2.setCell ⟨gl, k * 3 + 2, none⟩ (.slice qB qx.length qd)).heap.size (.slice A n c) xs := fun A n c xs h1 h2 => by
     have := h1.far (D := gl) (fun a ha e => h2 a ha (by rw [e]; rfl)) (k * 3 + 2) (.slice qB qx.length qd)
     simpa using this
    have X9 := Lib.hid (show ∀ j, j < k + 1 → KC.IsL (p2.setCell ⟨gl, k * 3 + 2, none⟩ (.slice qB qx.length qd)) (p2.setCell ⟨gl, k * 3 + 2, none⟩ (.slice qB qx.length qd)).heap.size (.slice ((LL.set k ⟨qr, ql, qB, qd, qx⟩).getD j lo0).A ((LL.set k ⟨qr, ql, qB, qd, qx⟩).getD j lo0).xs.length ((LL.set k ⟨qr, ql, qB, qd, qx⟩).getD j lo0).c) ((LL.set k ⟨qr, ql, qB, qd, qx⟩).getD j lo0).xs ∧ ∀ a, ((LL.set k ⟨qr, ql, qB, qd, qx⟩).getD j lo0).A = some a → some a.block ≠ bk cA' ∧ some a.block ≠ bk (some ⟨gl, 0, none⟩) ∧ w0.heap.size ≤ a.block ∧ a.block < (p2.setCell ⟨gl, k * 3 + 2, none⟩ (.slice qB qx.length qd)).heap.size from fun j hj => by
     by_cases e : k = j
     ·subst e
      rw [getD_set_eq' LL k _ (by omega)]
      exact ⟨hfarG _ _ _ _ XN.out.1 (fun a ha => (XN.out.2 a ha).2.1), fun a ha => by have h := XN.out.2 a ha; exact ⟨h.1, h.2.1, h.2.2.1, by simpa using h.2.2.2⟩⟩
     ·rw [getD_set_ne' LL k j _ e]
      have h := X8.out j (by omega)
      exact ⟨hfarG _ _ _ _ h.1 (fun a ha => (h.2 a ha).2.1), fun a ha => by have h2 := h.2 a ha; exact ⟨h2.1, h2.2.1, h2.2.2.1, by simpa using h2.2.2.2⟩⟩)
    have L9 := Lib.hid (show (LL.set k ⟨qr, ql, qB, qd, qx⟩).length = ll.length ∧ (LL.set k ⟨qr, ql, qB, qd, qx⟩).map Lo.ab = ll.map Lo.ab ∧ ∀ j, k + 1 ≤ j → (LL.set k ⟨qr, ql, qB, qd, qx⟩).getD j lo0 = ll.getD j lo0 from ⟨by rw [List.length_set, hPl], HMAP.out ⟨qr, ql, qB, qd, qx⟩ rfl, fun j hj => by rw [getD_set_ne' LL k j _ (by omega)]; exact HLL.out.2.2 j (by omega)⟩)
    clear hfarG hPl hxa hg0 S8 R8 O8 P8 X8 XN BB2 QO2
    generalize p2.setCell ⟨gl, k * 3 + 2, none⟩ (.slice qB qx.length qd) = vx at *
    refine hK.out _ _ hH (fun hHeld => ?_)
    clear hK K hH hHeld
    try simp only [sp]
    refine wpAnyH_done (by kernel_rfl) ?_ _
    go_wp2
    go_roundw
    case rel => exact ⟨k + 1, LL.set k ⟨qr, ql, qB, qd, qx⟩, num_i (by omega), by omega, L9, S9, R9, O9, P9, X9, B9, Z9⟩
    case measure => simp [intOf]; omega
   refine AllReadyH.cons (o := ⟨some 30, _, _, _, _, _⟩) rfl (fun K hK => ?_) AllReadyH.nil
   obtain ⟨-, z0⟩ := HS6.out _ BB0.out
   go_simp
   clear z0 hHeld
   refine hK.out _ _ (HS6.out _ BB0.out).1 (fun hHeld => ?_)
   clear hK K
   try simp only [sp]
   refine wpAnyH_ready (rs := [3]) (by kernel_rfl) (by simp) ?_
   refine AllReadyH.cons (o := ⟨some 24, _, _, _, _, _⟩) rfl (fun K hK => ?_) AllReadyH.nil
   go_simp
   have hb := Below.al (Below.refl _ p0) (.cells #[] 128)
   have BB1 := Lib.hid (BB0.out.trans (hb.mono BB0.out.size))
   have QO1 := Lib.hid (show KC.Own (p0.alloc (.cells #[] 128)) wr.heap.size (.slice (some ⟨p0.heap.size, 0, none⟩) 0 0) [] from Lk.Own.made (K := KC) p0 wr.heap.size 0 #[] BB0.out.size (by unfold maxLen; omega) (by simp))
   clear hb BB0 hHeld
   generalize p0.alloc (.cells #[] 128) = p1 at *
   generalize p0.heap.size = QH1 at *
   refine hK.out _ _ (HS6.out _ BB1.out).1 (fun hHeld => ?_)
   clear hK K
   try simp only [sp]
   refine wpAnyH_ready (rs := [10]) (by kernel_rfl) (by simp) ?_
   refine AllReadyH.cons (o := ⟨some 31, _, _, _, _, _⟩) rfl (fun K hK => ?_) AllReadyH.nil
   refine Lk.wp_app (K := KC) p1 _ _ rfl rfl wr.heap.size wr.heap.size _ (.slice qA qx.length qc) [] qx rfl rfl QO1.out (HQX.out.below BB1.out) ?_ BB1.out.size ?_
   ·have := HQ4.out; simp only [List.length_nil]; omega
   intro va p2 ho hg hat
   obtain ⟨qB, qd, rfl, -⟩ := ((show KC.Own p2 wr.heap.size va qx from ho).isL (by have := HQ4.out; omega)).shape
   have BB2 := Lib.hid (Lk.Own.grow' QO1.out BB1.out BB1.out.size hg)
   have QO2 := Lib.hid (show KC.Own p2 wr.heap.size (.slice qB qx.length qd) qx from ho)
   clear ho hg hat QO1 BB1 hHeld
   refine hK.out _ _ (HS6.out _ BB2.out).1 (fun hHeld => ?_)
   clear hK K
   try simp only [sp]
   refine tk 11 32 rfl ?_
   try simp only [sp]
   refine tk 12 33 rfl ?_
   try simp only [sp]
   refine wpAnyH_ready (rs := [13]) (by kernel_rfl) (by simp) ?_
   refine AllReadyH.cons (o := ⟨none, _, _, _, _, _⟩) rfl (fun K hK => ?_) AllReadyH.nil
   obtain ⟨z0, y0⟩ := HW6.out _ BB2.out
   go_simp
   clear z0 y0 hHeld
   have hH := st_other (a := ⟨gl, k * 3 + 2, none⟩) (v := .slice qB qx.length qd) (HS6.out _ BB2.out).1 (fun e => HGS.out (congrArg Addr.block e))
   have hPl : LL.length = ll.length := HLL.out.1
   have hxa : ∀ a, qB = some a → wr.heap.size ≤ a.block ∧ a.block < p2.heap.size := fun a ha => QO2.out.lt a.block (bk_own (by rw [ha]; rfl))
   have hg0 : gl < wr.heap.size := HG1.out.2
   have XN := Lib.hid (show KC.IsL p2 p2.heap.size (.slice qB qx.length qd) qx ∧ ∀ a, qB = some a → some a.block ≠ bk cA' ∧ some a.block ≠ bk (some ⟨gl, 0, none⟩) ∧ w0.heap.size ≤ a.block ∧ a.block < p2.heap.size from ⟨QO2.out.isL (by have := HQ4.out; omega), fun a ha => ⟨fun e => by
     have h1 := (HO5.out.lt a.block (bk_own e.symm)).2
     have h2 := (hxa a ha).1
     omega, fun e => by
     have h3 : gl = a.block := by simpa [bk] using e.symm
     have h2 := (hxa a ha).1
     omega, by have h2 := (hxa a ha).1; have := HZ5.out; omega, (hxa a ha).2⟩⟩)
   have S8 := Lib.hid (HS5.out.below BB2.out)
   have R8 := Lib.hid (HR5.out.below BB2.out)
   have O8 := Lib.hid (HO5.out.below BB2.out)
   have P8 := Lib.hid (HP5.out.below BB2.out)
   have X8 := Lib.hid (show ∀ j, j < k → KC.IsL p2 p2.heap.size (.slice (LL.getD j lo0).A (LL.getD j lo0).xs.length (LL.getD j lo0).c) (LL.getD j lo0).xs ∧ ∀ a, (LL.getD j lo0).A = some a → some a.block ≠ bk cA' ∧ some a.block ≠ bk (some ⟨gl, 0, none⟩) ∧ w0.heap.size ≤ a.block ∧ a.block < p2.heap.size from fun j hj => ⟨(HX5.out j hj).1.then BB2.out, fun a ha => ⟨((HX5.out j hj).2 a ha).1, ((HX5.out j hj).2 a ha).2.1, ((HX5.out j hj).2 a ha).2.2.1, Nat.lt_of_lt_of_le ((HX5.out j hj).2 a ha).2.2.2 BB2.out.size⟩⟩)
   have S9 := Lib.hid (S8.out.off HGS.out (o := k * 3 + 2) (.slice qB qx.length qd))
   have R9 := Lib.hid (R8.out.off (HFA.out gl HG1.out.1).2 (o := k * 3 + 2) (.slice qB qx.length qd))
   have O9 := Lib.hid (O8.out.far (D := gl) (fun b hb e => HN3.out b (own_bk hb) (by rw [e]; rfl)) (k * 3 + 2) (.slice qB qx.length qd))
   have P9 := Lib.hid (show KL.Own (p2.setCell ⟨gl, k * 3 + 2, none⟩ (.slice qB qx.length qd)) w0.heap.size (.slice (some ⟨gl, 0, none⟩) ll.length lc') (LL.set k ⟨qr, ql, qB, qd, qx⟩) from P8.out.put3c (K := KL) rfl hPl k hlt ⟨qr, ql, qB, qd, qx⟩ (.int .i64 qr) (.int .i64 ql) (.slice qB qx.length qd) (.slice qA qx.length qc) (by show loCells (LL.getD k lo0) = _; rw [HGK.out]; rfl) rfl HQF.out)
   have B9 := Lib.hid (show Below w.heap.size w (p2.setCell ⟨gl, k * 3 + 2, none⟩ (.slice qB qx.length qd)) from (HB5.out.trans (BB2.out.mono HB5.out.size)).setCell (by have := HG1.out; have := HZ.out; show w.heap.size ≤ gl; omega) _)
   have Z9 := Lib.hid (show w0.heap.size ≤ (p2.setCell ⟨gl, k * 3 + 2, none⟩ (.slice qB qx.length qd)).heap.size by have h1 := HZ5.out; have h2 := BB2.out.size; simp; omega)
   have hfarG : ∀ (A : Option Addr) (n c : Nat) (xs : List Ch), KC.IsL p2 p2.heap.size (.slice A n c) xs → (∀ a, A = some a → some a.block ≠ bk (some ⟨gl, 0, none⟩)) → KC.IsL (p2.setCell ⟨gl, k * 3 + 2, none⟩ (.slice qB qx.length qd)) (p2.setCell ⟨gl, k * 3 + 2, none⟩ (.slice qB qx.length qd)).heap.size (.slice A n c) xs := fun A n c xs h1 h2 => by
    have := h1.far (D := gl) (fun a ha e => h2 a ha (by rw [e]; rfl)) (k * 3 + 2) (.slice qB qx.length qd)
    simpa using this
   have X9 := Lib.hid (show ∀ j, j < k + 1 → KC.IsL (p2.setCell ⟨gl, k * 3 + 2, none⟩ (.slice qB qx.length qd)) (p2.setCell ⟨gl, k * 3 + 2, none⟩ (.slice qB qx.length qd)).heap.size (.slice ((LL.set k ⟨qr, ql, qB, qd, qx⟩).getD j lo0).A ((LL.set k ⟨qr, ql, qB, qd, qx⟩).getD j lo0).xs.length ((LL.set k ⟨qr, ql, qB, qd, qx⟩).getD j lo0).c) ((LL.set k ⟨qr, ql, qB, qd, qx⟩).getD j lo0).xs ∧ ∀ a, ((LL.set k ⟨qr, ql, qB, qd, qx⟩).getD j lo0).A = some a → some a.block ≠ bk cA' ∧ some a.block ≠ bk (some ⟨gl, 0, none⟩) ∧ w0.heap.size ≤ a.block ∧ a.block < (p2.setCell ⟨gl, k * 3 + 2, none⟩ (.slice qB qx.length qd)).heap.size from fun j hj => by
    by_cases e : k = j
    ·subst e
     rw [getD_set_eq' LL k _ (by omega)]
     exact ⟨hfarG _ _ _ _ XN.out.1 (fun a ha => (XN.out.2 a ha).2.1), fun a ha => by have h := XN.out.2 a ha; exact ⟨h.1, h.2.1, h.2.2.1, by simpa using h.2.2.2⟩⟩
    ·rw [getD_set_ne' LL k j _ e]
     have h := X8.out j (by omega)
     exact ⟨hfarG _ _ _ _ h.1 (fun a ha => (h.2 a ha).2.1), fun a ha => by have h2 := h.2 a ha; exact ⟨h2.1, h2.2.1, h2.2.2.1, by simpa using h2.2.2.2⟩⟩)
   have L9 := Lib.hid (show (LL.set k ⟨qr, ql, qB, qd, qx⟩).length = ll.length ∧ (LL.set k ⟨qr, ql, qB, qd, qx⟩).map Lo.ab = ll.map Lo.ab ∧ ∀ j, k + 1 ≤ j → (LL.set k ⟨qr, ql, qB, qd, qx⟩).getD j lo0 = ll.getD j lo0 from ⟨by rw [List.length_set, hPl], HMAP.out ⟨qr, ql, qB, qd, qx⟩ rfl, fun j hj => by rw [getD_set_ne' LL k j _ (by omega)]; exact HLL.out.2.2 j (by omega)⟩)
   clear hfarG hPl hxa hg0 S8 R8 O8 P8 X8 XN BB2 QO2
   generalize p2.setCell ⟨gl, k * 3 + 2, none⟩ (.slice qB qx.length qd) = vx at *
   refine hK.out _ _ hH (fun hHeld => ?_)
   clear hK K hH hHeld
   try simp only [sp]
   refine wpAnyH_done (by kernel_rfl) ?_ _
   go_wp2
   go_roundw
   case rel => exact ⟨k + 1, LL.set k ⟨qr, ql, qB, qd, qx⟩, num_i (by omega), by omega, L9, S9, R9, O9, P9, X9, B9, Z9⟩
   case measure => simp [intOf]; omega
  ·obtain rfl : k = ll.length := by omega
   have hPl : LL.length = ll.length := HLL.out.1
   have hba := Below.al (Below.refl wr.heap.size wr) (.cells #[] 68)
   obtain ⟨-, -, b2, -⟩ := HS5.out.below hba
   go_wp2_with (at_builtin; refine Lk.wpList_app (K := KT) _ rfl _ _ rfl rfl wr.heap.size (wr.alloc (.cells #[] 68)).heap.size _ _ [] tl rfl rfl (Lk.Own.made (K := KT) wr wr.heap.size 0 #[] (Nat.le_refl _) (by unfold maxLen; omega) (by simp)) ((HI.out wr HB5.out).t.then hba) ?c1 ?c2 ?_)
   case c1 => simp only [List.length_nil]; omega
   case c2 => exact hba.size
   intro va v7 ho hg hat
   have HB7 := Lib.hid (show Below wr.heap.size wr v7 from Lk.Own.grow' (Lk.Own.made (K := KT) wr wr.heap.size 0 #[] (Nat.le_refl _) (by unfold maxLen; omega) (by simp)) hba hba.size hg)
   obtain ⟨tA', tc', rfl, -⟩ := ((show KT.Own v7 wr.heap.size va tl from ho).isL (by omega)).shape
   have HOT := Lib.hid (show KT.Own v7 wr.heap.size (.slice tA' tl.length tc') tl from ho)
   have S7 := Lib.hid (HS5.out.below HB7.out)
   have R7 := Lib.hid (HR5.out.below HB7.out)
   have O7 := Lib.hid (HO5.out.below HB7.out)
   have P7 := Lib.hid (HP5.out.below HB7.out)
   have X7 := Lib.hid (show ∀ j, j < ll.length → KC.IsL v7 v7.heap.size (.slice (LL.getD j lo0).A (LL.getD j lo0).xs.length (LL.getD j lo0).c) (LL.getD j lo0).xs ∧ ∀ a, (LL.getD j lo0).A = some a → some a.block ≠ bk cA' ∧ some a.block ≠ bk lA' ∧ some a.block ≠ bk tA' ∧ w0.heap.size ≤ a.block ∧ a.block < v7.heap.size from fun j hj => ⟨(HX5.out j hj).1.then HB7.out, fun a ha => ⟨((HX5.out j hj).2 a ha).1, ((HX5.out j hj).2 a ha).2.1, fun e => by
    have h1 := (HOT.out.lt a.block (bk_own e.symm)).1
    have h2 := ((HX5.out j hj).2 a ha).2.2.2
    omega, ((HX5.out j hj).2 a ha).2.2.1, Nat.lt_of_lt_of_le ((HX5.out j hj).2 a ha).2.2.2 HB7.out.size⟩⟩)
   have N7 := Lib.hid (show (∀ b, bk cA' = some b → bk tA' ≠ some b) ∧ (∀ b, bk lA' = some b → bk tA' ≠ some b) from ⟨fun b h1 h2 => by
    have a1 := (HO5.out.lt b (bk_own h1)).2
    have a2 := (HOT.out.lt b (bk_own h2)).1
    omega, fun b h1 h2 => by
    have a1 := (HP5.out.lt b (bk_own h1)).2
    have a2 := (HOT.out.lt b (bk_own h2)).1
    omega⟩)
   have T7 := Lib.hid (HOT.out.mono HZ5.out)
   have B7 := Lib.hid (HB5.out.trans (HB7.out.mono HB5.out.size))
   have Z7 := Lib.hid (Nat.le_trans HZ5.out HB7.out.size)
   clear ho hg hat hba b2 g1
   obtain ⟨a0, a1, a2, a3, a4, a5, -, -, y2, -⟩ := S7.out
   obtain ⟨r0, r1, r2, r3, r4, r5, z0, z1, z2, z3, z4, z5, -⟩ := R7.out
   have hgr : Gs ≠ Gr := by have := HZ.out; omega
   go_upto_region 8 with fail
   --CUT5
   clear a0 a1 a2 a3 a4 a5 y2 r0 r1 r2 r3 r4 r5 z0 z1 z2 z3 z4 z5
   have S8 := Lib.hid (S7.out.s (.slice tA' tl.length tc')).2.2.1
   have R8 := Lib.hid (R7.out.off (D := Gs) (o := 2) hgr (.slice tA' tl.length tc'))
   have O8 := Lib.hid (O7.out.far (D := Gs) (fun b hb => (HFA.out b (O7.out.lt b hb).1).1) 2 (.slice tA' tl.length tc'))
   have P8 := Lib.hid (P7.out.far (D := Gs) (fun b hb => (HFA.out b (P7.out.lt b hb).1).1) 2 (.slice tA' tl.length tc'))
   have T8 := Lib.hid (T7.out.far (D := Gs) (fun b hb => (HFA.out b (T7.out.lt b hb).1).1) 2 (.slice tA' tl.length tc'))
   have X8 := Lib.hid (show ∀ j, j < ll.length → KC.IsL (v7.setCell ⟨Gs, 2, none⟩ (.slice tA' tl.length tc')) (v7.setCell ⟨Gs, 2, none⟩ (.slice tA' tl.length tc')).heap.size (.slice (LL.getD j lo0).A (LL.getD j lo0).xs.length (LL.getD j lo0).c) (LL.getD j lo0).xs ∧ ∀ a, (LL.getD j lo0).A = some a → some a.block ≠ bk cA' ∧ some a.block ≠ bk lA' ∧ some a.block ≠ bk tA' ∧ w0.heap.size ≤ a.block ∧ a.block < (v7.setCell ⟨Gs, 2, none⟩ (.slice tA' tl.length tc')).heap.size from fun j hj => ⟨by have h := (X7.out j hj).1.far (D := Gs) (fun a ha => (HFA.out _ ((X7.out j hj).2 a ha).2.2.2.1).1) 2 (.slice tA' tl.length tc'); simpa using h, fun a ha => by have h := (X7.out j hj).2 a ha; simpa using h⟩)
   have B8 := Lib.hid (show Below w.heap.size w (v7.setCell ⟨Gs, 2, none⟩ (.slice tA' tl.length tc')) from B7.out.setCell (by have := HZ.out; show w.heap.size ≤ Gs; omega) _)
   have Z8 := Lib.hid (show w0.heap.size ≤ (v7.setCell ⟨Gs, 2, none⟩ (.slice tA' tl.length tc')).heap.size by have := Z7.out; simpa using this)
   clear S7 R7 O7 P7 T7 X7 B7 Z7 HOT HS5 HR5 HO5 HP5 HX5 HB5 HZ5 HB7
   generalize v7.setCell ⟨Gs, 2, none⟩ (.slice tA' tl.length tc') = v8 at *
   obtain ⟨a0, a1, a2, a3, a4, a5, -⟩ := S8.out
   obtain ⟨r0, r1, r2, r3, r4, r5, z0, z1, z2, z3, z4, z5, -⟩ := R8.out
   go_wp2
   --CUT6
   obtain ⟨q0, q1, q2, q3, q4, q5, -⟩ := R8.out.set (.slice cA' cl.length cc') (.slice lA' ll.length lc') (.slice tA' tl.length tc') (.int .i64 st) (.int .i64 inn) (.int .i64 out)
   have M8 : Rw v8 w0.heap.size ⟨cA', cc', cl, lA', lc', LL, tA', tc', tl, st, inn, out⟩ := by
    refine ⟨O8.out, ?_, T8.out, fun q hq => ?_, fun q hq a ha => ?_, HN3.out, N7.out.1, N7.out.2, Z8.out, HF.out⟩
    ·show KL.Own _ _ (.slice lA' LL.length lc') LL
     rw [hPl]
     exact P8.out
    ·obtain ⟨j, hj, rfl⟩ := List.getElem_of_mem hq
     have hj : j < LL.length := hj
     have e : LL.getD j lo0 = LL[j] := by rw [List.getD_eq_getElem?_getD, List.getElem?_eq_getElem hj]; rfl
     have h := (X8.out j (by omega))
     rw [e] at h
     exact h.1
    ·obtain ⟨j, hj, rfl⟩ := List.getElem_of_mem hq
     have hj : j < LL.length := hj
     have e : LL.getD j lo0 = LL[j] := by rw [List.getD_eq_getElem?_getD, List.getElem?_eq_getElem hj]; rfl
     have h := (X8.out j (by omega))
     rw [e] at h
     have h2 := h.2 a ha
     exact ⟨h2.1, h2.2.1, h2.2.2.1, h2.2.2.2.1⟩
   have hfr : ∀ W o u, Rw W w0.heap.size ⟨cA', cc', cl, lA', lc', LL, tA', tc', tl, st, inn, out⟩ → Rw (W.setCell ⟨Gr, o, none⟩ u) w0.heap.size ⟨cA', cc', cl, lA', lc', LL, tA', tc', tl, st, inn, out⟩ := fun W o u h => h.far (fun e => (HFA.out Gr (h.c.lt Gr (bk_own e)).1).2 rfl) (fun e => (HFA.out Gr (h.l.lt Gr (bk_own e)).1).2 rfl) (fun e => (HFA.out Gr (h.t.lt Gr (bk_own e)).1).2 rfl) (fun q hq a ha e => (HFA.out a.block (h.y q hq a ha).2.2.2).2 e) u
   refine bodyPost_ret (v := .agg #[.slice cA' cl.length cc', .slice lA' ll.length lc', .slice tA' tl.length tc', .int .i64 st, .int .i64 inn, .int .i64 out]) ?_ rfl ?_
   ·simp [results, Tryz.results7, go_sem, q0, q1, q2, q3, q4, q5]
   ·have M9 := hfr _ 5 (.int .i64 out) (hfr _ 4 (.int .i64 inn) (hfr _ 3 (.int .i64 st) (hfr _ 2 (.slice tA' tl.length tc') (hfr _ 1 (.slice lA' ll.length lc') (hfr _ 0 (.slice cA' cl.length cc') M8)))))
    refine ⟨⟨cA', cc', cl, lA', lc', LL, tA', tc', tl, st, inn, out⟩, by show _ = Ending.returned (.agg #[.slice cA' cl.length cc', .slice lA' LL.length lc', .slice tA' tl.length tc', .int .i64 st, .int .i64 inn, .int .i64 out]); rw [hPl], ?_, ?_, below_set6 B8.out (by have := HZ.out; omega) _ _ _ _ _ _, fun q hq a ha => ?_⟩
    ·simp only [Stk.ab]
     rw [HLL.out.2.1]
    ·have hle : w.heap.size ≤ w0.heap.size := HB0.out.size
     exact ⟨M9.c.mono hle, M9.l.mono hle, M9.t.mono hle, M9.x, fun q hq a ha => ⟨(M9.y q hq a ha).1, (M9.y q hq a ha).2.1, (M9.y q hq a ha).2.2.1, Nat.le_trans hle (M9.y q hq a ha).2.2.2⟩, M9.n1, M9.n2, M9.n3, Nat.le_trans hle M9.le, M9.f⟩
    ·obtain ⟨j, hj, rfl⟩ := List.getElem_of_mem hq
     have hj : j < LL.length := hj
     have e : LL.getD j lo0 = LL[j] := by rw [List.getD_eq_getElem?_getD, List.getElem?_eq_getElem hj]; rfl
     have h := (X8.out j (by omega))
     rw [e] at h
     have h2 := (h.2 a ha).2.2.2.2
     simpa using h2
end Go.Proofs.YtacjonncakhhmaaGreat
