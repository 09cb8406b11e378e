/- Stocks: a cell put, by the reference. -/
import Derived.Test.YtacjonncakhhmaaGreatPz00
import Derived.Test.YtacjonncakhhmaaGreatPz31
import Derived.Test.YtacjonncakhhmaaGreatPz32
import Derived.Test.YtacjonncakhhmaaGreatPz33
import Derived.Deep.Cut
namespace Go.Proofs.YtacjonncakhhmaaGreat
open Go.RowKit
set_option maxRecDepth 100000 in
set_option maxHeartbeats 4000000 in
theorem rput_any (s : Stk) (b' : Int) (V : World) (B k : Nat) (c : Cel.Ce) (hM : Rw V B s) (hk : k < s.cl.length) (hkl : k < s.ll.length) (hc : c.Fit) (hn : fits (c.b - (s.cl.getD k ce0).b)) (h1 : s.cl.length ≤ 100000) (h2 : s.ll.length ≤ 100000) :
  Calls Tryz.prog 54 #[s.v, .int .i64 b', .int .i64 k, c.v] V fun e V' => ∃ q : Lo, e = .returned (.tuple #[]) ∧ q.ab = ptL s k c b' ∧ Rw V' B { s with ll := s.ll.set k q, cl := s.cl.set k c } ∧ Below B V V' ∧ (∀ a u, V.cell? a = some u → some a.block ≠ bk s.cA → some a.block ≠ bk s.lA → V'.cell? a = some u) ∧ (∀ a, q.A = some a → V.heap.size ≤ a.block) ∧ (∀ a : Addr, a.block < V.heap.size → V.frozen? a = false → V'.frozen? a = false) := by
 obtain ⟨ca, cb, cc⟩ := c
 obtain ⟨v0, hv0⟩ : ∃ v0, v0 = (V.alloc (.cells #[.slice s.cA s.cl.length s.cc, .slice s.lA s.ll.length s.lc, .slice s.tA s.tl.length s.tc, .int .i64 s.st, .int .i64 s.inn, .int .i64 s.out] 31)).alloc (.cells #[.int .i64 ca, .int .i64 cb, .int .i64 cc] 58) := ⟨_, rfl⟩
 have HBV := Lib.hid (show Below V.heap.size V v0 by rw [hv0]; exact Below.al (Below.al (Below.refl _ _) _) _)
 obtain ⟨Gs, hGs⟩ : ∃ Gs, Gs = V.heap.size := ⟨_, rfl⟩
 obtain ⟨Gc, hGc⟩ : ∃ Gc, Gc = V.heap.size + 1 := ⟨_, rfl⟩
 have HSK := Lib.hid (show SkAt v0 Gs s by rw [hv0, hGs]; exact (Cells6.new V _ _ _ _ _ _ _).below (Below.al (Below.refl _ _) _))
 have HCK := Lib.hid (show Cells3 v0 Gc (.int .i64 ca) (.int .i64 cb) (.int .i64 cc) by
  have e : (V.alloc (.cells #[.slice s.cA s.cl.length s.cc, .slice s.lA s.ll.length s.lc, .slice s.tA s.tl.length s.tc, .int .i64 s.st, .int .i64 s.inn, .int .i64 s.out] 31)).heap.size = V.heap.size + 1 := by simp
  rw [hv0, hGc, ← e]
  exact Cells3.new _ _ _ _ _)
 have HM := Lib.hid (hM.below HBV.out)
 have HM0 := Lib.hid hM
 have HC := Lib.hid hc
 obtain ⟨gc, ec, gc1, gc2, gc3⟩ := hM.cAt (by omega)
 obtain ⟨gl, el, gl1, gl2, gl3⟩ := hM.lAt (by omega)
 have HEC := Lib.hid ec
 have HEL := Lib.hid el
 have HG := Lib.hid (show B ≤ gc ∧ gc < V.heap.size ∧ s.cl.length ≤ s.cc ∧ B ≤ gl ∧ gl < V.heap.size ∧ s.ll.length ≤ s.lc ∧ B ≤ V.heap.size ∧ Gs = V.heap.size ∧ Gc = V.heap.size + 1 ∧ V.heap.size ≤ v0.heap.size from ⟨gc1, gc2, gc3, gl1, gl2, gl3, hM.le, hGs, hGc, HBV.out.size⟩)
 have HX := Lib.hid ((HM.out.x _ (getD_mem' s.ll k lo0 hkl)))
 have HF := Lib.hid ((hM.l.isL (by omega)).2.1 _ (getD_mem' s.ll k lo0 hkl))
 have HP : Hid (∀ Q X, s.ll.getD k lo0 = Q → s.cl.getD k ce0 = X → ptL s k ⟨ca, cb, cc⟩ b' = (Lg.ntR Q.r Q.l Q.xs b' (cb - X.b), Lg.ntM Q.r Q.l Q.xs b' (cb - X.b), Lg.ntZ Q.r Q.l Q.xs b' (cb - X.b))) := Lib.hid (fun Q X e1 e2 => by subst e1; subst e2; rfl)
 have HS1 := Lib.hid (show ∀ W, Below v0.heap.size v0 W → W.cell? ⟨Gs, 0, none⟩ = some (.slice (some ⟨gc, 0, none⟩) s.cl.length s.cc) ∧ W.cell? ⟨Gs, 1, none⟩ = some (.slice (some ⟨gl, 0, none⟩) s.ll.length s.lc) ∧ W.cell? ⟨Gc, 1, none⟩ = some (.int .i64 cb) ∧ W.cell? ⟨gl, k * 3, none⟩ = some (.int .i64 (s.ll.getD k lo0).r) ∧ W.cell? ⟨gl, k * 3 + 1, none⟩ = some (.int .i64 (s.ll.getD k lo0).l) ∧ W.cell? ⟨gl, k * 3 + 2, none⟩ = some (.slice (s.ll.getD k lo0).A (s.ll.getD k lo0).xs.length (s.ll.getD k lo0).c) ∧ W.cell? ⟨gc, k * 3 + 1, none⟩ = some (.int .i64 (s.cl.getD k ce0).b) from fun W h => by
  obtain ⟨s0, s1, -⟩ := HSK.out.below h
  obtain ⟨-, b1, -⟩ := HCK.out.below h
  have hol := (HM.out.below h).l
  rw [el] at hol
  obtain ⟨l0, l1, l2, -⟩ := KL.Own.at3 hol rfl k hkl
  have hoc := (HM.out.below h).c
  rw [ec] at hoc
  obtain ⟨-, c1, -⟩ := KE.Own.at3 hoc rfl k hk
  rw [ec] at s0
  rw [el] at s1
  exact ⟨s0, s1, b1, l0, l1, l2, c1⟩)
 obtain ⟨Q, hQ⟩ : ∃ Q, s.ll.getD k lo0 = Q := ⟨_, rfl⟩
 obtain ⟨X, hX⟩ : ∃ X, s.cl.getD k ce0 = X := ⟨_, rfl⟩
 rw [hQ, hX] at HS1
 rw [hQ] at HX HF
 rw [hX] at hn
 have HPP := Lib.hid (HP.out Q X hQ hX)
 obtain ⟨qr, ql, qA, qc, qx⟩ := Q
 dsimp only at *
 have HN := Lib.hid (fun w h => Lg.rnote_all qr ql qA qc qx b' (cb - X.b) w h)
 have HNF := Lib.hid (nt_fits (l := ql) qx b' (cb - X.b) HF.out.1)
 have HNL := Lib.hid (nt_len (r := qr) (l := ql) qx b' (cb - X.b))
 generalize Lg.ntR qr ql qx b' (cb - X.b) = ZR at *
 generalize Lg.ntM qr ql qx b' (cb - X.b) = ZM at *
 generalize Lg.ntZ qr ql qx b' (cb - X.b) = ZZ at *
 generalize Lg.ntE qr ql qx b' (cb - X.b) = ZE at *
 generalize X.b = Xb at *
 have hkc : (k : Int) < s.cl.length := by omega
 have hkL : (k : Int) < s.ll.length := by omega
 obtain ⟨a0, a1, -⟩ := HSK.out
 rw [hv0, hGs] at a0 a1
 clear hM hc gc1 gc2 gc3 gl1 gl2 gl3 ec el hQ hX a0 a1
 go_enter Tryz.func54, Tryz.ntmps54
 go_upto_region 1 with fail
 rw [← hv0]
 try rw [← hGc]
 try rw [← hGs]
 clear hv0 hGs hGc
 --CUT1
 go_cut [8] from 9 (fun t8 wx => ∃ (Gb : Nat) (A' : Option Addr) (c' : Nat), t8 = .pointer (some ⟨Gb, 0, none⟩) ∧ Hid (Cells3 wx Gb (.int .i64 ZR) (.int .i64 ZM) (.slice A' ZZ.length c')) ∧ Hid (KC.IsL wx wx.heap.size (.slice A' ZZ.length c') ZZ) ∧ Hid (∀ a, A' = some a → v0.heap.size ≤ a.block) ∧ Hid (Below v0.heap.size v0 wx) ∧ Hid (v0.heap.size ≤ Gb))
 case first =>
  clear HPP HM HM0 HC HSK HCK HEC HEL
  refine wp_region_held_drew (S := fun w' => w'.cell? ⟨Gs, 0, none⟩ = some (Value.slice (some ⟨gc, 0, none⟩) s.cl.length s.cc) ∧ w'.cell? ⟨Gs, 1, none⟩ = some (Value.slice (some ⟨gl, 0, none⟩) s.ll.length s.lc) ∧ w'.cell? ⟨Gc, 1, none⟩ = some (.int .i64 cb) ∧ w'.cell? ⟨gl, k * 3, none⟩ = some (.int .i64 qr) ∧ w'.cell? ⟨gl, k * 3 + 1, none⟩ = some (.int .i64 ql) ∧ w'.cell? ⟨gl, k * 3 + 2, none⟩ = some (.slice qA qx.length qc) ∧ w'.cell? ⟨gc, k * 3 + 1, none⟩ = some (.int .i64 Xb)) (by kernel_rfl) ?_ (fun hHeld => ?_)
  ·exact HS1.out _ (Below.refl _ _).drew
  have BB0 := Lib.hid (show Below v0.heap.size v0 v0.drew from (Below.refl _ _).drew)
  generalize v0.drew = p0 at *
  refine tk 0 11 rfl ?_
  try simp only [sp]
  refine tk 1 12 rfl ?_
  try simp only [sp]
  refine tk 2 13 rfl ?_
  try simp only [sp]
  refine tk 3 14 rfl ?_
  try simp only [sp]
  refine tk 4 15 rfl ?_
  try simp only [sp]
  refine tk 5 16 rfl ?_
  try simp only [sp]
  refine tk 6 17 rfl ?_
  try simp only [sp]
  refine tk 7 18 rfl ?_
  try simp only [sp]
  refine tk 8 19 rfl ?_
  try simp only [sp]
  refine tk 9 20 rfl ?_
  try simp only [sp]
  refine tk 10 21 rfl ?_
  try simp only [sp]
  refine tk 11 22 rfl ?_
  try simp only [sp]
  refine tk 12 23 rfl ?_
  try simp only [sp]
  refine tk 13 24 rfl ?_
  try simp only [sp]
  refine tk 14 25 rfl ?_
  try simp only [sp]
  refine wpAnyH_ready (rs := [15, 19]) (by kernel_rfl) (by simp) ?_
  refine AllReadyH.cons (o := ⟨some 26, _, _, _, _, _⟩) rfl (fun K hK => ?_) ?_
  ·go_simp
   rw [wrap_fits _ hn]
   refine (HN.out _ (HX.out.then BB0.out)).mono ?_
   rintro e p1 ⟨A', c', rfl, hi, hb, hla⟩
   have BB1 := Lib.hid (BB0.out.trans (hb.mono BB0.out.size))
   have HI1 := Lib.hid hi
   have HA1 := Lib.hid (show ∀ a, A' = some a → v0.heap.size ≤ a.block from fun a ha => Nat.le_trans BB0.out.size (hla a ha))
   clear hb hi hla hHeld BB0
   go_wp2_with fail
   refine hK.out _ _ (HS1.out _ BB1.out) (fun hHeld => ?_)
   clear hK K
   try simp only [sp]
   refine tk 16 10 rfl ?_
   try simp only [sp]
   refine tk 17 27 rfl ?_
   try simp only [sp]
   refine tk 18 28 rfl ?_
   try simp only [sp]
   refine wpAnyH_ready (rs := [19]) (by kernel_rfl) (by simp) ?_
   refine AllReadyH.cons (o := ⟨some 8, _, _, _, _, _⟩) rfl (fun K hK => ?_) AllReadyH.nil
   go_simp
   have hb := Below.al (Below.refl _ p1) (.cells #[.int .i64 0, .int .i64 0, .slice none 0 0] 50)
   have BB2 := Lib.hid (BB1.out.trans (hb.mono BB1.out.size))
   have HC2 := Lib.hid (Cells3.new p1 50 (.int .i64 0) (.int .i64 0) (.slice none 0 0))
   have HI2 := Lib.hid (HI1.out.below hb)
   have HGB := Lib.hid (show v0.heap.size ≤ p1.heap.size from BB1.out.size)
   have HLT := Lib.hid hb
   clear hb hHeld BB1 HI1
   generalize p1.alloc (.cells #[.int .i64 0, .int .i64 0, .slice none 0 0] 50) = p2 at *
   generalize p1.heap.size = Gb at *
   refine hK.out _ _ (HS1.out _ BB2.out) (fun hHeld => ?_)
   clear hK K
   try simp only [sp]
   refine wpAnyH_ready (rs := [20]) (by kernel_rfl) (by simp) ?_
   refine AllReadyH.cons (o := ⟨none, _, _, _, _, _⟩) rfl (fun K hK => ?_) AllReadyH.nil
   obtain ⟨s0, s1, s2, y0, y1, y2, sl⟩ := HC2.out
   go_simp
   clear s0 s1 s2 y0 y1 y2
   have BB3 := Lib.hid (show Below v0.heap.size v0 (((p2.setCell ⟨Gb, 0, none⟩ (.int .i64 ZR)).setCell ⟨Gb, 1, none⟩ (.int .i64 ZM)).setCell ⟨Gb, 2, none⟩ (.slice A' ZZ.length c')) from below_set3 BB2.out HGB.out (.int .i64 ZR) (.int .i64 ZM) (.slice A' ZZ.length c'))
   have HC3 := Lib.hid (show Cells3 (((p2.setCell ⟨Gb, 0, none⟩ (.int .i64 ZR)).setCell ⟨Gb, 1, none⟩ (.int .i64 ZM)).setCell ⟨Gb, 2, none⟩ (.slice A' ZZ.length c')) Gb (.int .i64 ZR) (.int .i64 ZM) (.slice A' ZZ.length c') from HC2.out.set (.int .i64 ZR) (.int .i64 ZM) (.slice A' ZZ.length c'))
   have HI3 := Lib.hid (show KC.IsL (((p2.setCell ⟨Gb, 0, none⟩ (.int .i64 ZR)).setCell ⟨Gb, 1, none⟩ (.int .i64 ZM)).setCell ⟨Gb, 2, none⟩ (.slice A' ZZ.length c')) (((p2.setCell ⟨Gb, 0, none⟩ (.int .i64 ZR)).setCell ⟨Gb, 1, none⟩ (.int .i64 ZM)).setCell ⟨Gb, 2, none⟩ (.slice A' ZZ.length c')).heap.size (.slice A' ZZ.length c') ZZ from (HI2.out.below (below_set3 (Below.refl Gb p2) (Nat.le_refl Gb) (.int .i64 ZR) (.int .i64 ZM) (.slice A' ZZ.length c'))).more (by simp; omega))
   clear HI2 HLT
   clear hHeld BB2 HC2 sl
   generalize ((p2.setCell ⟨Gb, 0, none⟩ (.int .i64 ZR)).setCell ⟨Gb, 1, none⟩ (.int .i64 ZM)).setCell ⟨Gb, 2, none⟩ (.slice A' ZZ.length c') = p3 at *
   refine hK.out _ _ (HS1.out _ BB3.out) (fun hHeld => ?_)
   clear hK K
   try simp only [sp]
   refine tk 21 9 rfl ?_
   try simp only [sp]
   refine wpAnyH_done (by kernel_rfl) ?_ _
   go_wp2
   go_meet
   exact ⟨Gb, A', c', rfl, HC3, HI3, HA1, BB3, HGB⟩
  refine AllReadyH.cons (o := ⟨some 8, _, _, _, _, _⟩) rfl (fun K hK => ?_) AllReadyH.nil
  go_simp
  have hb := Below.al (Below.refl _ p0) (.cells #[.int .i64 0, .int .i64 0, .slice none 0 0] 50)
  have BB1 := Lib.hid (BB0.out.trans (hb.mono BB0.out.size))
  have HC1 := Lib.hid (Cells3.new p0 50 (.int .i64 0) (.int .i64 0) (.slice none 0 0))
  have HGB := Lib.hid (show v0.heap.size ≤ p0.heap.size from BB0.out.size)
  have HGL := Lib.hid (show p0.heap.size < (p0.alloc (.cells #[.int .i64 0, .int .i64 0, .slice none 0 0] 50)).heap.size by simp)
  clear hb hHeld BB0
  generalize p0.alloc (.cells #[.int .i64 0, .int .i64 0, .slice none 0 0] 50) = p1 at *
  generalize p0.heap.size = Gb at *
  refine hK.out _ _ (HS1.out _ BB1.out) (fun hHeld => ?_)
  clear hK K
  try simp only [sp]
  refine wpAnyH_ready (rs := [15]) (by kernel_rfl) (by simp) ?_
  refine AllReadyH.cons (o := ⟨some 26, _, _, _, _, _⟩) rfl (fun K hK => ?_) AllReadyH.nil
  go_simp
  rw [wrap_fits _ hn]
  refine (HN.out _ (HX.out.then BB1.out)).mono ?_
  rintro e p2 ⟨A', c', rfl, hi, hb, hla⟩
  have BB2 := Lib.hid (BB1.out.trans (hb.mono BB1.out.size))
  have HC2 := Lib.hid (HC1.out.below hb)
  have HI2 := Lib.hid hi
  have HA0 := Lib.hid (show ∀ a, A' = some a → p1.heap.size ≤ a.block from hla)
  have HA1 := Lib.hid (show ∀ a, A' = some a → v0.heap.size ≤ a.block from fun a ha => Nat.le_trans BB1.out.size (HA0.out a ha))
  clear hb hi hla hHeld BB1 HC1
  go_wp2_with fail
  refine hK.out _ _ (HS1.out _ BB2.out) (fun hHeld => ?_)
  clear hK K
  try simp only [sp]
  refine tk 16 10 rfl ?_
  try simp only [sp]
  refine tk 17 27 rfl ?_
  try simp only [sp]
  refine tk 18 28 rfl ?_
  try simp only [sp]
  refine wpAnyH_ready (rs := [20]) (by kernel_rfl) (by simp) ?_
  refine AllReadyH.cons (o := ⟨none, _, _, _, _, _⟩) rfl (fun K hK => ?_) AllReadyH.nil
  obtain ⟨s0, s1, s2, y0, y1, y2, sl⟩ := HC2.out
  go_simp
  clear s0 s1 s2 y0 y1 y2
  have BB3 := Lib.hid (show Below v0.heap.size v0 (((p2.setCell ⟨Gb, 0, none⟩ (.int .i64 ZR)).setCell ⟨Gb, 1, none⟩ (.int .i64 ZM)).setCell ⟨Gb, 2, none⟩ (.slice A' ZZ.length c')) from below_set3 BB2.out HGB.out (.int .i64 ZR) (.int .i64 ZM) (.slice A' ZZ.length c'))
  have HC3 := Lib.hid (show Cells3 (((p2.setCell ⟨Gb, 0, none⟩ (.int .i64 ZR)).setCell ⟨Gb, 1, none⟩ (.int .i64 ZM)).setCell ⟨Gb, 2, none⟩ (.slice A' ZZ.length c')) Gb (.int .i64 ZR) (.int .i64 ZM) (.slice A' ZZ.length c') from HC2.out.set (.int .i64 ZR) (.int .i64 ZM) (.slice A' ZZ.length c'))
  have hne : ∀ a, A' = some a → a.block ≠ Gb := fun a ha => by have h1 := HA0.out a ha; have h2 := HGL.out; omega
  have HI3 := Lib.hid (show KC.IsL (((p2.setCell ⟨Gb, 0, none⟩ (.int .i64 ZR)).setCell ⟨Gb, 1, none⟩ (.int .i64 ZM)).setCell ⟨Gb, 2, none⟩ (.slice A' ZZ.length c')) (((p2.setCell ⟨Gb, 0, none⟩ (.int .i64 ZR)).setCell ⟨Gb, 1, none⟩ (.int .i64 ZM)).setCell ⟨Gb, 2, none⟩ (.slice A' ZZ.length c')).heap.size (.slice A' ZZ.length c') ZZ from by have h := ((HI2.out.far hne 0 (.int .i64 ZR)).far hne 1 (.int .i64 ZM)).far hne 2 (.slice A' ZZ.length c'); simpa using h)
  clear HI2 HA0 HGL hne
  clear hHeld BB2 HC2 sl
  generalize ((p2.setCell ⟨Gb, 0, none⟩ (.int .i64 ZR)).setCell ⟨Gb, 1, none⟩ (.int .i64 ZM)).setCell ⟨Gb, 2, none⟩ (.slice A' ZZ.length c') = p3 at *
  refine hK.out _ _ (HS1.out _ BB3.out) (fun hHeld => ?_)
  clear hK K
  try simp only [sp]
  refine tk 21 9 rfl ?_
  try simp only [sp]
  refine wpAnyH_done (by kernel_rfl) ?_ _
  go_wp2
  go_meet
  exact ⟨Gb, A', c', rfl, HC3, HI3, HA1, BB3, HGB⟩
 case rest =>
  obtain ⟨Gb, A', c', rfl, HNB, HNI, HNA, HBW, HGB⟩ := hcut
  have M1 := Lib.hid (HM.out.below HBW.out)
  have HSK1 := Lib.hid (HSK.out.below HBW.out)
  have HCK1 := Lib.hid (HCK.out.below HBW.out)
  obtain ⟨a0, a1, -⟩ := HSK1.out
  rw [HEC.out] at a0
  rw [HEL.out] at a1
  obtain ⟨b0, b1, b2, -⟩ := HCK1.out
  have hoc := M1.out.c
  rw [HEC.out] at hoc
  obtain ⟨q0, q1, q2, y0, y1, y2⟩ := KE.Own.at3 hoc rfl k hk
  clear hoc
  go_upto_region 3 with fail
  --CUT2
  clear q0 q1 q2 y0 y1 y2 a0 b0 b1 b2
  have hgs : gc ≠ Gs := by have := HG.out; omega
  have hgb : gc ≠ Gb := by have := HG.out; have := HGB.out; omega
  have M2 := Lib.hid (M1.out.putC k hk gc HEC.out ⟨ca, cb, cc⟩ HC.out)
  have HNB2 := Lib.hid (show Cells3 (((wc.setCell ⟨gc, k * 3, none⟩ (.int .i64 ca)).setCell ⟨gc, k * 3 + 1, none⟩ (.int .i64 cb)).setCell ⟨gc, k * 3 + 2, none⟩ (.int .i64 cc)) Gb (.int .i64 ZR) (.int .i64 ZM) (.slice A' ZZ.length c') from ((HNB.out.off hgb _).off hgb _).off hgb _)
  have hnA : ∀ a, A' = some a → a.block ≠ gc := fun a ha => by have := HNA.out a ha; have := HG.out; omega
  have HNI2 := Lib.hid (show KC.IsL (((wc.setCell ⟨gc, k * 3, none⟩ (.int .i64 ca)).setCell ⟨gc, k * 3 + 1, none⟩ (.int .i64 cb)).setCell ⟨gc, k * 3 + 2, none⟩ (.int .i64 cc)) (((wc.setCell ⟨gc, k * 3, none⟩ (.int .i64 ca)).setCell ⟨gc, k * 3 + 1, none⟩ (.int .i64 cb)).setCell ⟨gc, k * 3 + 2, none⟩ (.int .i64 cc)).heap.size (.slice A' ZZ.length c') ZZ from by have h := ((HNI.out.far hnA (k * 3) (.int .i64 ca)).far hnA (k * 3 + 1) (.int .i64 cb)).far hnA (k * 3 + 2) (.int .i64 cc); simpa using h)
  have st3 : ∀ a u, wc.cell? a = some u → gc ≠ a.block → (((wc.setCell ⟨gc, k * 3, none⟩ (.int .i64 ca)).setCell ⟨gc, k * 3 + 1, none⟩ (.int .i64 cb)).setCell ⟨gc, k * 3 + 2, none⟩ (.int .i64 cc)).cell? a = some u := fun a u h hne => st_other (st_other (st_other h (fun e => hne (by rw [← e]))) (fun e => hne (by rw [← e]))) (fun e => hne (by rw [← e]))
  have HST := Lib.hid st3
  have HFZ := Lib.hid (fun (a : Addr) (h : a.block < V.heap.size) (hf : V.frozen? a = false) => show (((wc.setCell ⟨gc, k * 3, none⟩ (.int .i64 ca)).setCell ⟨gc, k * 3 + 1, none⟩ (.int .i64 cb)).setCell ⟨gc, k * 3 + 2, none⟩ (.int .i64 cc)).frozen? a = false from st_fz (st_fz (st_fz (by rw [HBW.out.frozen (p := a) (Nat.lt_of_lt_of_le h HBV.out.size), HBV.out.frozen (p := a) h]; exact hf))))
  have HB2 := Lib.hid (show Below B V (((wc.setCell ⟨gc, k * 3, none⟩ (.int .i64 ca)).setCell ⟨gc, k * 3 + 1, none⟩ (.int .i64 cb)).setCell ⟨gc, k * 3 + 2, none⟩ (.int .i64 cc)) from (((((HBV.out.trans (HBW.out.mono (by have := HG.out; omega))).mono (by have := HG.out; omega)).setCell (by have := HG.out; show B ≤ gc; omega) _).setCell (by have := HG.out; show B ≤ gc; omega) _).setCell (by have := HG.out; show B ≤ gc; omega) _))
  have a1' := st3 _ _ a1 hgs
  clear a1 st3 hnA hgs hgb
  generalize ((wc.setCell ⟨gc, k * 3, none⟩ (.int .i64 ca)).setCell ⟨gc, k * 3 + 1, none⟩ (.int .i64 cb)).setCell ⟨gc, k * 3 + 2, none⟩ (.int .i64 cc) = w5 at *
  obtain ⟨n0, n1, n2, -⟩ := HNB2.out
  have hol := M2.out.l
  rw [show ({ s with cl := s.cl.set k ⟨ca, cb, cc⟩ } : Stk).lA = some ⟨gl, 0, none⟩ from HEL.out] at hol
  obtain ⟨q0, q1, q2, y0, y1, y2⟩ := KL.Own.at3 hol rfl k hkl
  dsimp only at q0 q1 q2
  clear hol
  --CUT3
  go_wp2
  --CUT4
  go_end0
  ·refine ⟨⟨ZR, ZM, A', c', ZZ⟩, rfl, HPP.out.symm, M2.out.putL k hkl gl HEL.out ⟨ZR, ZM, A', c', ZZ⟩ HNF.out HNI2.out (fun a ha => ?_), ?_, fun a u h1 n1 n2 => ?_, fun a ha => Nat.le_trans HBV.out.size (HNA.out a ha), fun a h hf => st_fz (st_fz (st_fz (HFZ.out a h hf)))⟩
   ·have h1 := HNA.out a ha
    have h2 := HM0.out.out (D := a.block) (by have := HG.out; omega)
    exact ⟨fun e => h2.1 e.symm, fun e => h2.2.1 e.symm, fun e => h2.2.2 e.symm, by have := HG.out; omega⟩
   ·exact ((HB2.out.setCell (by have := HG.out; show B ≤ gl; omega) _).setCell (by have := HG.out; show B ≤ gl; omega) _).setCell (by have := HG.out; show B ≤ gl; omega) _
   ·have g1 : gc ≠ a.block := fun e => n1 (by rw [HEC.out, ← e]; rfl)
    have g2 : gl ≠ a.block := fun e => n2 (by rw [HEL.out, ← e]; rfl)
    have h5 := HST.out a u (keep_cell HBW.out (keep_cell HBV.out h1)) g1
    exact st_other (st_other (st_other h5 (fun e => g2 (by rw [← e]))) (fun e => g2 (by rw [← e]))) (fun e => g2 (by rw [← e]))
end Go.Proofs.YtacjonncakhhmaaGreat
