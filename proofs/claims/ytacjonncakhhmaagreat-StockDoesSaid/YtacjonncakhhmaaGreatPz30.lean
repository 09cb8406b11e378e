/- A stock made one's own: its rows copied. -/
import Derived.Test.YtacjonncakhhmaaGreatPz00
import Derived.Test.YtacjonncakhhmaaGreatPz29
import Derived.Deep.Cut
namespace Go.Proofs.YtacjonncakhhmaaGreat
open Go.RowKit
theorem map_getD_ab (l m : List Lo) (h : l.map Lo.ab = m.map Lo.ab) (k : Nat) (q : Lo) (hk : k < l.length) (hq : q.ab = (m.getD k lo0).ab) : (l.set k q).map Lo.ab = m.map Lo.ab := by
 have hl : l.length = m.length := by have := congrArg List.length h; simpa using this
 apply List.ext_getElem?
 intro j
 rw [List.getElem?_map, List.getElem?_map]
 by_cases e : k = j
 ·subst e
  rw [List.getElem?_set_self hk, List.getElem?_eq_getElem (by omega : k < m.length)]
  rw [List.getD_eq_getElem?_getD, List.getElem?_eq_getElem (by omega : k < m.length)] at hq
  simp only [Option.map_some, Option.some.injEq]
  exact hq
 ·rw [List.getElem?_set_ne e, ← List.getElem?_map, h, List.getElem?_map]
theorem getD_set_ne' (l : List Lo) (k j : Nat) (q : Lo) (h : k ≠ j) : (l.set k q).getD j lo0 = l.getD j lo0 := by rw [List.getD_eq_getElem?_getD, List.getElem?_set_ne h, List.getD_eq_getElem?_getD]
theorem getD_set_eq' (l : List Lo) (k : Nat) (q : Lo) (h : k < l.length) : (l.set k q).getD k lo0 = q := by rw [List.getD_eq_getElem?_getD, List.getElem?_set_self h]; rfl
set_option maxRecDepth 100000 in
set_option maxHeartbeats 4000000 in
theorem renew_any (s : Stk) (D : Nat) (d : Dk) (b' : Int) (V : World) (hs : s.In V D) (hS : SkAt V D s) (hT : Tl V D d b') (hl1 : s.cl.length ≤ 100000) (hl2 : s.ll.length ≤ 100000) (hl3 : s.tl.length ≤ 100000) (hl4 : ∀ q ∈ s.ll, q.xs.length ≤ 100000) :
  Calls Tryz.prog 69 #[.pointer (some ⟨D, 0, none⟩)] V fun e V' => ∃ s' : Stk, e = .returned (.tuple #[]) ∧ s'.ab = s.ab ∧ Mine V' V.heap.size D s' ∧ Tl V' D d b' ∧ Below D V V' := by
 have HDL := Lib.hid (show D < V.heap.size from hT.2.2.2.2.2)
 have HI := Lib.hid (fun W (hb : Below D V W) => (hs.below hb).more (show D ≤ W.heap.size from Nat.le_trans (Nat.le_of_lt hT.2.2.2.2.2) hb.size))
 obtain ⟨cA, cc, cl, lA, lc, ll, tA, tc, tl, st, inn, out⟩ := s
 have HF := Lib.hid hs.f
 have HS := Lib.hid hS
 have HT := Lib.hid hT
 have HCE := Lib.hid (fun w h => clone_e (.slice cA cl.length cc) cl w h hl1)
 have HCL := Lib.hid (fun w h => clone_l (.slice lA ll.length lc) ll w h hl2)
 have HCT := Lib.hid (fun w h => clone_t (.slice tA tl.length tc) tl w h hl3)
 have HL4 := Lib.hid hl4
 have HL1 := Lib.hid hl1
 have HL2 := Lib.hid hl2
 have HL3 := Lib.hid hl3
 dsimp only at HI HS HT HCE HCL HCT HL4 HL1 HL2 HL3 HF
 clear hs hS hT hl1 hl2 hl3 hl4
 obtain ⟨g0, g1, g2, g3, g4, g5, z0, z1, z2, z3, z4, z5, zl⟩ := HS.out
 clear g1 g2 g3 g4 g5 z0 z1 z2 z3 z4 z5 zl
 go_enter Tryz.func69, Tryz.ntmps69
 go_wp2_with fail
 refine (HCE.out _ (HI.out V (Below.refl _ _)).c).mono ?_
 rintro e V1 ⟨v1, rfl, ho, hb⟩
 have O1 := Lib.hid ho
 obtain ⟨cA', cc', rfl, _⟩ := (ho.isL (by have := HL1.out; omega)).shape
 have S1 := Lib.hid (HS.out.below hb)
 have T1 := Lib.hid (HT.out.below hb)
 have B1 := Lib.hid (hb.mono (Nat.le_of_lt HDL.out))
 obtain ⟨g0, g1, g2, g3, g4, g5, z0, z1, z2, z3, z4, z5, zl⟩ := S1.out
 clear g1 g2 g3 g4 g5 z1 z2 z3 z4 z5 zl ho hb HS HT
 go_upto_region 1 with fail
 clear g0 z0
 have hfa : ∀ b, V.heap.size ≤ b → b ≠ D := fun b h => by have := HDL.out; omega
 have S2 := Lib.hid (S1.out.s (.slice cA' cl.length cc')).1
 have T2 := Lib.hid (T1.out.off (g := D) (o := 0) (.inr (by decide)) (.slice cA' cl.length cc'))
 have O2 := Lib.hid (O1.out.far (D := D) (fun b hb => hfa b (O1.out.lt b hb).1) 0 (.slice cA' cl.length cc'))
 have B2 := Lib.hid (show Below D V (V1.setCell ⟨D, 0, none⟩ (.slice cA' cl.length cc')) from B1.out.setCell (Nat.le_refl _) _)
 have HFA := Lib.hid hfa
 clear hfa S1 T1 O1 B1
 generalize V1.setCell ⟨D, 0, none⟩ (.slice cA' cl.length cc') = V2 at *
 obtain ⟨g0, g1, g2, g3, g4, g5, z0, z1, z2, z3, z4, z5, zl⟩ := S2.out
 clear g0 g2 g3 g4 g5 z0 z1 z2 z3 z4 z5 zl
 go_wp2_with fail
 refine (HCL.out _ (HI.out V2 B2.out).l).mono ?_
 rintro e V3 ⟨v3, rfl, ho, hb⟩
 have hsz2 : V.heap.size ≤ V2.heap.size := B2.out.size
 have P3 := Lib.hid (ho.mono hsz2)
 obtain ⟨lA', lc', rfl, _⟩ := (ho.isL (by have := HL2.out; omega)).shape
 have S3 := Lib.hid (S2.out.below hb)
 have T3 := Lib.hid (T2.out.below hb)
 have O3 := Lib.hid (O2.out.below hb)
 have B3 := Lib.hid (B2.out.trans (hb.mono (Nat.le_trans (Nat.le_of_lt HDL.out) hsz2)))
 have N3 := Lib.hid (show ∀ b, bk cA' = some b → bk lA' ≠ some b from fun b h1 h2 => by
  have a1 := (O2.out.lt b (bk_own h1)).2
  have a2 := (ho.lt b (bk_own h2)).1
  omega)
 obtain ⟨g0, g1, g2, g3, g4, g5, z0, z1, z2, z3, z4, z5, zl⟩ := S3.out
 clear g0 g2 g3 g4 g5 z0 z2 z3 z4 z5 zl ho hb hsz2 S2 T2 O2 B2
 go_upto_region 2 with fail
 clear g1 z1
 have S4 := Lib.hid (S3.out.s (.slice lA' ll.length lc')).2.1
 have T4 := Lib.hid (T3.out.off (g := D) (o := 1) (.inr (by decide)) (.slice lA' ll.length lc'))
 have O4 := Lib.hid (O3.out.far (D := D) (fun b hb => HFA.out b (O3.out.lt b hb).1) 1 (.slice lA' ll.length lc'))
 have P4 := Lib.hid (P3.out.far (D := D) (fun b hb => HFA.out b (P3.out.lt b hb).1) 1 (.slice lA' ll.length lc'))
 have B4 := Lib.hid (show Below D V (V3.setCell ⟨D, 1, none⟩ (.slice lA' ll.length lc')) from B3.out.setCell (Nat.le_refl _) _)
 clear S3 T3 O3 P3 B3
 generalize V3.setCell ⟨D, 1, none⟩ (.slice lA' ll.length lc') = V4 at *
 obtain ⟨g0, g1, g2, g3, g4, g5, z0, z1, z2, z3, z4, z5, zl⟩ := S4.out
 clear g0 g2 g3 g4 g5 z0 z2 z3 z4 z5 zl
 have hll : (ll.length : Int) ≤ 100000 := by have := HL2.out; omega
 go_wp2
 clear g1 z1
 go_loopw [30] (fun i wr => ∃ (k : Nat) (LL : List Lo), i = .int .i64 k ∧ k ≤ ll.length ∧ Hid (LL.length = ll.length ∧ LL.map Lo.ab = ll.map Lo.ab ∧ ∀ j, k ≤ j → LL.getD j lo0 = ll.getD j lo0) ∧ Hid (Cells6 wr D (.slice cA' cl.length cc') (.slice lA' ll.length lc') (.slice tA tl.length tc) (.int .i64 st) (.int .i64 inn) (.int .i64 out)) ∧
   Hid (Tl wr D d b') ∧ Hid (KE.Own wr V.heap.size (.slice cA' cl.length cc') cl) ∧ Hid (KL.Own wr V.heap.size (.slice lA' ll.length lc') LL) ∧
   Hid (∀ j, j < k → KC.IsL wr wr.heap.size (.slice (LL.getD j lo0).A (LL.getD j lo0).xs.length (LL.getD j lo0).c) (LL.getD j lo0).xs ∧ ∀ a, (LL.getD j lo0).A = some a → some a.block ≠ bk cA' ∧ some a.block ≠ bk lA' ∧ V.heap.size ≤ a.block ∧ a.block < wr.heap.size) ∧ Hid (Below D V wr)) (fun i _ => ll.length - (intOf i).toNat)
 case atStart => exact ⟨0, ll, rfl, Nat.zero_le _, Lib.hid ⟨rfl, rfl, fun _ _ => rfl⟩, S4, T4, O4, P4, Lib.hid (fun j hj => absurd hj (Nat.not_lt_zero _)), B4⟩
 case round =>
  clear S4 T4 O4 P4 B4
  obtain ⟨k, LL, rfl, hk, hLL, hS, hT, hO, hP, hX, hB⟩ := hrel
  have HLL := Lib.hid hLL.out
  have S5 := Lib.hid hS.out
  have T5 := Lib.hid hT.out
  have O5 := Lib.hid hO.out
  have P5 := Lib.hid hP.out
  have X5 := Lib.hid hX.out
  have B5 := Lib.hid hB.out
  clear hLL hS hT hO hP hX hB
  by_cases hlt : k < ll.length
  ·have hPl : LL.length = ll.length := HLL.out.1
   obtain ⟨gl, cpl, hvl, hg1, hg2, hg3⟩ := P5.out.shape (by omega)
   rw [hPl] at hvl hg3
   simp only [Value.slice.injEq] at hvl
   obtain ⟨rfl, _, rfl⟩ := hvl
   obtain ⟨q0, q1, q2, y0, y1, y2⟩ := KL.Own.at3 P5.out hPl k hlt
   have hgk : LL.getD k lo0 = ll.getD k lo0 := HLL.out.2.2 k (Nat.le_refl _)
   rw [hgk] at q0 q1 q2
   have HQX := Lib.hid ((HI.out wr B5.out).x _ (getD_mem' ll k lo0 hlt))
   have HQ4 := Lib.hid (HL4.out _ (getD_mem' ll k lo0 hlt))
   have HQF := Lib.hid ((HI.out wr B5.out).l.2.1 _ (getD_mem' ll k lo0 hlt))
   have HGK := Lib.hid hgk
   clear hgk
   have HMAP := Lib.hid (fun q hq => map_getD_ab LL ll HLL.out.2.1 k q (by omega) hq)
   have HKK := Lib.hid (show (ll.getD k lo0) = ll.getD k lo0 from rfl)
   obtain ⟨Q, hQ⟩ : ∃ Q, ll.getD k lo0 = Q := ⟨_, rfl⟩
   rw [hQ] at q0 q1 q2 HQX HQ4 HQF HGK HMAP
   clear hQ HKK y0 y1 y2
   obtain ⟨qr, ql, qA, qc, qx⟩ := Q
   dsimp only at *
   have hba := Below.al (Below.refl wr.heap.size wr) (.cells #[.int .i64 qr, .int .i64 ql, .slice qA qx.length qc] 50)
   have hVs : V.heap.size ≤ wr.heap.size := B5.out.size
   have HX1 := Lib.hid (show ∀ w1, Below (wr.alloc (.cells #[.int .i64 qr, .int .i64 ql, .slice qA qx.length qc] 50)).heap.size (wr.alloc (.cells #[.int .i64 qr, .int .i64 ql, .slice qA qx.length qc] 50)) w1 → (w1.cell? ⟨wr.heap.size, 2, none⟩ = some (.slice qA qx.length qc)) from by
    intro w1 hb
    refine keep_cell hb ?_
    simp [go_sem])
   have S6 := Lib.hid (S5.out.below hba)
   have T6 := Lib.hid (T5.out.below hba)
   have O6 := Lib.hid (O5.out.below hba)
   have P6 := Lib.hid (P5.out.below hba)
   have X6 := Lib.hid (show ∀ j, j < k → KC.IsL (wr.alloc (.cells #[.int .i64 qr, .int .i64 ql, .slice qA qx.length qc] 50)) (wr.alloc (.cells #[.int .i64 qr, .int .i64 ql, .slice qA qx.length qc] 50)).heap.size (.slice (LL.getD j lo0).A (LL.getD j lo0).xs.length (LL.getD j lo0).c) (LL.getD j lo0).xs ∧ ∀ a, (LL.getD j lo0).A = some a → some a.block ≠ bk cA' ∧ some a.block ≠ bk (some ⟨gl, 0, none⟩) ∧ V.heap.size ≤ a.block ∧ a.block < (wr.alloc (.cells #[.int .i64 qr, .int .i64 ql, .slice qA qx.length qc] 50)).heap.size from fun j hj => ⟨(X5.out j hj).1.then hba, fun a ha => ⟨((X5.out j hj).2 a ha).1, ((X5.out j hj).2 a ha).2.1, ((X5.out j hj).2 a ha).2.2.1, Nat.lt_of_lt_of_le ((X5.out j hj).2 a ha).2.2.2 hba.size⟩⟩)
   have B6 := Lib.hid (B5.out.trans (hba.mono (Nat.le_trans (Nat.le_of_lt HDL.out) hVs)))
   have Q6 := Lib.hid (HQX.out.then hba)
   have HCC := Lib.hid (fun w h => clone_c (.slice qA qx.length qc) qx w h HQ4.out)
   have HGL := Lib.hid (show gl < wr.heap.size from hg2)
   have HLN := Lib.hid (show gl < wr.heap.size from hg2)
   have HG1 := Lib.hid hg1
   have g1 := S5.out.2.1
   obtain ⟨Lb, hLb⟩ : ∃ Lb, wr.heap.size = Lb := ⟨_, rfl⟩
   clear S5 T5 O5 P5 X5 B5 hVs hba HQX
   go_upto_region 5 with fail
   generalize wr.alloc (.cells #[.int .i64 qr, .int .i64 ql, .slice qA qx.length qc] 50) = V5 at *
   rw [hLb] at HX1 HGL HLN
   try simp only [hLb]
   clear hLb q0 q1 q2 g1
   obtain ⟨e1, e2⟩ : V5.drew.cell? ⟨D, 1, none⟩ = some (.slice (some ⟨gl, 0, none⟩) ll.length lc') ∧ V5.drew.cell? ⟨Lb, 2, none⟩ = some (.slice qA qx.length qc) := ⟨S6.out.2.1, HX1.out V5.drew (Below.refl _ _).drew⟩
   refine wp_region_held_drew (S := fun w' => w'.cell? ⟨D, 1, none⟩ = some (.slice (some ⟨gl, 0, none⟩) ll.length lc') ∧ w'.cell? ⟨Lb, 2, none⟩ = some (.slice qA qx.length qc)) (by kernel_rfl) ?_ (fun hHeld => ?_)
   ·exact ⟨e1, e2⟩
   clear e1 e2
   have bw := (Below.refl V5.heap.size V5).drew
   have S7 := Lib.hid (S6.out.below bw)
   have T7 := Lib.hid (T6.out.below bw)
   have O7 := Lib.hid (O6.out.below bw)
   have P7 := Lib.hid (P6.out.below bw)
   have X7 := Lib.hid (show ∀ j, j < k → KC.IsL V5.drew V5.drew.heap.size (.slice (LL.getD j lo0).A (LL.getD j lo0).xs.length (LL.getD j lo0).c) (LL.getD j lo0).xs ∧ ∀ a, (LL.getD j lo0).A = some a → some a.block ≠ bk cA' ∧ some a.block ≠ bk (some ⟨gl, 0, none⟩) ∧ V.heap.size ≤ a.block ∧ a.block < V5.drew.heap.size from fun j hj => X6.out j hj)
   have B7 := Lib.hid (Below.drew B6.out)
   have Q7 := Lib.hid (Q6.out.then bw)
   have BV := Lib.hid bw
   have HGL := Lib.hid (show gl < V5.drew.heap.size from Nat.lt_of_lt_of_le HGL.out (by have h := World.block_lt_of_cell? _ _ (HX1.out V5 (Below.refl _ _)); exact Nat.le_of_lt h))
   clear bw S6 T6 O6 P6 X6 B6 Q6
   generalize V5.drew = v0 at *
   refine tk 0 35 rfl ?_
   try simp only [sp]
   refine tk 1 36 rfl ?_
   try simp only [sp]
   refine tk 2 37 rfl ?_
   try simp only [sp]
   refine tk 3 38 rfl ?_
   try simp only [sp]
   refine tk 4 39 rfl ?_
   try simp only [sp]
   refine tk 5 40 rfl ?_
   try simp only [sp]
   refine tk 6 41 rfl ?_
   try simp only [sp]
   refine tk 7 42 rfl ?_
   try simp only [sp]
   refine wpAnyH_ready (rs := [8]) (by kernel_rfl) (by simp) ?_
   refine AllReadyH.cons (o := ⟨some 43, _, _, _, _, _⟩) rfl (fun K hK => ?_) AllReadyH.nil
   go_simp
   refine (HCC.out _ Q7.out).mono ?_
   rintro e v1 ⟨vx, rfl, ho, hb⟩
   obtain ⟨xA, xc, rfl, _⟩ := (ho.isL (by have := HQ4.out; omega)).shape
   have hVs : V.heap.size ≤ v0.heap.size := B7.out.size
   have S8 := Lib.hid (S7.out.below hb)
   have T8 := Lib.hid (T7.out.below hb)
   have O8 := Lib.hid (O7.out.below hb)
   have P8 := Lib.hid (P7.out.below hb)
   have X8 := Lib.hid (show ∀ j, j < k → KC.IsL v1 v1.heap.size (.slice (LL.getD j lo0).A (LL.getD j lo0).xs.length (LL.getD j lo0).c) (LL.getD j lo0).xs ∧ ∀ a, (LL.getD j lo0).A = some a → some a.block ≠ bk cA' ∧ some a.block ≠ bk (some ⟨gl, 0, none⟩) ∧ V.heap.size ≤ a.block ∧ a.block < v1.heap.size from fun j hj => ⟨(X7.out j hj).1.then hb, fun a ha => ⟨((X7.out j hj).2 a ha).1, ((X7.out j hj).2 a ha).2.1, ((X7.out j hj).2 a ha).2.2.1, Nat.lt_of_lt_of_le ((X7.out j hj).2 a ha).2.2.2 hb.size⟩⟩)
   have B8 := Lib.hid (B7.out.trans (hb.mono (Nat.le_trans (Nat.le_of_lt HDL.out) hVs)))
   have BV := Lib.hid (Below.call BV.out hb)
   have hxa : ∀ a, xA = some a → v0.heap.size ≤ a.block ∧ a.block < v1.heap.size := fun a ha => ho.lt a.block (bk_own (by rw [ha]; rfl))
   have C8 := Lib.hid (show some gl ≠ bk cA' from fun e => by have h := N3.out gl e.symm; exact h rfl)
   have XN := Lib.hid (show KC.IsL v1 v1.heap.size (.slice xA qx.length xc) qx ∧ ∀ a, xA = some a → some a.block ≠ bk cA' ∧ some a.block ≠ bk (some ⟨gl, 0, none⟩) ∧ V.heap.size ≤ a.block ∧ a.block < v1.heap.size from ⟨ho.isL (by have := HQ4.out; omega), fun a ha => ⟨fun e => by
     have h1 := (O7.out.lt a.block (bk_own e.symm)).2
     have h2 := (hxa a ha).1
     omega, fun e => by
     have h3 : gl = a.block := by simpa [bk] using e.symm
     have h2 := (hxa a ha).1
     have := HGL.out
     omega, by have h2 := (hxa a ha).1; omega, (hxa a ha).2⟩⟩)
   have hH := And.intro (S8.out.2.1) (HX1.out v1 BV.out)
   go_wp2_with fail
   clear ho hb hVs hxa S7 T7 O7 P7 X7 B7 Q7
   refine hK.out _ _ hH (fun hHeld => ?_)
   clear hK K
   clear hH
   try simp only [sp]
   refine tk 9 44 rfl ?_
   try simp only [sp]
   refine tk 10 45 rfl ?_
   try simp only [sp]
   refine wpAnyH_ready (rs := [11]) (by kernel_rfl) (by simp) ?_
   refine AllReadyH.cons (o := ⟨none, _, _, _, _, _⟩) rfl (fun K hK => ?_) AllReadyH.nil
   have hPl : LL.length = ll.length := HLL.out.1
   obtain ⟨q0, q1, q2, y0, y1, y2⟩ := KL.Own.at3 P8.out hPl k hlt
   go_simp
   clear q0 q1 q2 y0 y1 y2
   have hDg : gl ≠ D := HFA.out gl HG1.out
   have S9 := Lib.hid (S8.out.off hDg (o := k * 3 + 2) (.slice xA qx.length xc))
   have T9 := Lib.hid (T8.out.off (g := gl) (o := k * 3 + 2) (.inl hDg) (.slice xA qx.length xc))
   have O9 := Lib.hid (O8.out.far (D := gl) (fun b hb e => C8.out (by rw [← e]; exact (own_bk hb).symm)) (k * 3 + 2) (.slice xA qx.length xc))
   have P9 := Lib.hid (show KL.Own (v1.setCell ⟨gl, k * 3 + 2, none⟩ (.slice xA qx.length xc)) V.heap.size (.slice (some ⟨gl, 0, none⟩) ll.length lc') (LL.set k ⟨qr, ql, xA, xc, qx⟩) from P8.out.put3c (K := KL) rfl hPl k hlt ⟨qr, ql, xA, xc, qx⟩ (.int .i64 qr) (.int .i64 ql) (.slice xA qx.length xc) (.slice qA qx.length qc) (by show loCells (LL.getD k lo0) = _; rw [HGK.out]; rfl) rfl HQF.out)
   have B9 := Lib.hid (show Below D V (v1.setCell ⟨gl, k * 3 + 2, none⟩ (.slice xA qx.length xc)) from B8.out.setCell (by show D ≤ gl; have := HG1.out; have := HDL.out; omega) _)
   have hfarG : ∀ (A : Option Addr) (n c : Nat) (xs : List Ch), KC.IsL v1 v1.heap.size (.slice A n c) xs → (∀ a, A = some a → some a.block ≠ bk (some ⟨gl, 0, none⟩)) → KC.IsL (v1.setCell ⟨gl, k * 3 + 2, none⟩ (.slice xA qx.length xc)) (v1.setCell ⟨gl, k * 3 + 2, none⟩ (.slice xA qx.length xc)).heap.size (.slice A n c) xs := fun A n c xs h1 h2 => by
    have := h1.far (D := gl) (fun a ha e => h2 a ha (by rw [e]; rfl)) (k * 3 + 2) (.slice xA qx.length xc)
    simpa using this
   have X9 := Lib.hid (show ∀ j, j < k + 1 → KC.IsL (v1.setCell ⟨gl, k * 3 + 2, none⟩ (.slice xA qx.length xc)) (v1.setCell ⟨gl, k * 3 + 2, none⟩ (.slice xA qx.length xc)).heap.size (.slice ((LL.set k ⟨qr, ql, xA, xc, qx⟩).getD j lo0).A ((LL.set k ⟨qr, ql, xA, xc, qx⟩).getD j lo0).xs.length ((LL.set k ⟨qr, ql, xA, xc, qx⟩).getD j lo0).c) ((LL.set k ⟨qr, ql, xA, xc, qx⟩).getD j lo0).xs ∧ ∀ a, ((LL.set k ⟨qr, ql, xA, xc, qx⟩).getD j lo0).A = some a → some a.block ≠ bk cA' ∧ some a.block ≠ bk (some ⟨gl, 0, none⟩) ∧ V.heap.size ≤ a.block ∧ a.block < (v1.setCell ⟨gl, k * 3 + 2, none⟩ (.slice xA qx.length xc)).heap.size from fun j hj => by
    by_cases e : k = j
    ·subst e
     rw [getD_set_eq' LL k _ (by omega)]
     exact ⟨hfarG _ _ _ _ XN.out.1 (fun a ha => (XN.out.2 a ha).2.1), fun a ha => by have h := XN.out.2 a ha; exact ⟨h.1, h.2.1, h.2.2.1, by simpa using h.2.2.2⟩⟩
    ·rw [getD_set_ne' LL k j _ e]
     have h := X8.out j (by omega)
     exact ⟨hfarG _ _ _ _ h.1 (fun a ha => (h.2 a ha).2.1), fun a ha => by have h2 := h.2 a ha; exact ⟨h2.1, h2.2.1, h2.2.2.1, by simpa using h2.2.2.2⟩⟩)
   have L9 := Lib.hid (show (LL.set k ⟨qr, ql, xA, xc, qx⟩).length = ll.length ∧ (LL.set k ⟨qr, ql, xA, xc, qx⟩).map Lo.ab = ll.map Lo.ab ∧ ∀ j, k + 1 ≤ j → (LL.set k ⟨qr, ql, xA, xc, qx⟩).getD j lo0 = ll.getD j lo0 from ⟨by rw [List.length_set, hPl], HMAP.out ⟨qr, ql, xA, xc, qx⟩ rfl, fun j hj => by rw [getD_set_ne' LL k j _ (by omega)]; exact HLL.out.2.2 j (by omega)⟩)
   have hLb2 : gl ≠ Lb := by
    intro e
    have h := HLN.out
    omega
   have hH2 := And.intro (S9.out.2.1) (st_other (v := .slice xA qx.length xc) (HX1.out v1 BV.out) (ad_ne (a := gl) (b := k * 3 + 2) (.inl hLb2)))
   refine hK.out _ _ hH2 (fun hHeld => ?_)
   clear hK K
   clear hH2 hHeld hLb2 hfarG hPl hDg S8 T8 O8 P8 X8 B8 XN
   try simp only [sp]
   refine wpAnyH_done (by kernel_rfl) ?_ _
   generalize v1.setCell ⟨gl, k * 3 + 2, none⟩ (.slice xA qx.length xc) = vx at *
   go_wp2
   go_roundw
   case rel => exact ⟨k + 1, LL.set k ⟨qr, ql, xA, xc, qx⟩, num_i (by omega), by omega, L9, S9, T9, O9, P9, X9, B9⟩
   case measure => simp [intOf]; omega
  ·obtain rfl : k = ll.length := by omega
   obtain ⟨g0, g1, g2, g3, g4, g5, z0, z1, z2, z3, z4, z5, zl⟩ := S5.out
   clear g0 g1 g3 g4 g5 z0 z1 z2 z3 z4 z5 zl
   go_wp2_with fail
   refine (HCT.out _ (HI.out wr B5.out).t).mono ?_
   rintro e V7 ⟨v7, rfl, ho, hb⟩
   obtain ⟨tA', tc', rfl, _⟩ := (ho.isL (by have := HL3.out; omega)).shape
   have hVs : V.heap.size ≤ wr.heap.size := B5.out.size
   have S7 := Lib.hid (S5.out.below hb)
   have T7 := Lib.hid (T5.out.below hb)
   have O7 := Lib.hid (O5.out.below hb)
   have P7 := Lib.hid (P5.out.below hb)
   have B7 := Lib.hid (B5.out.trans (hb.mono (Nat.le_trans (Nat.le_of_lt HDL.out) hVs)))
   have X7 := Lib.hid (show ∀ j, j < ll.length → KC.IsL V7 V7.heap.size (.slice (LL.getD j lo0).A (LL.getD j lo0).xs.length (LL.getD j lo0).c) (LL.getD j lo0).xs ∧ ∀ a, (LL.getD j lo0).A = some a → some a.block ≠ bk cA' ∧ some a.block ≠ bk lA' ∧ some a.block ≠ bk tA' ∧ V.heap.size ≤ a.block from fun j hj => ⟨(X5.out j hj).1.then hb, fun a ha => ⟨((X5.out j hj).2 a ha).1, ((X5.out j hj).2 a ha).2.1, fun e => by
    have h1 := (ho.lt a.block (bk_own e.symm)).1
    have h2 := ((X5.out j hj).2 a ha).2.2.2
    omega, ((X5.out j hj).2 a ha).2.2.1⟩⟩)
   have N7 := Lib.hid (show (∀ b, bk cA' = some b → bk tA' ≠ some b) ∧ (∀ b, bk lA' = some b → bk tA' ≠ some b) from ⟨fun b h1 h2 => by
    have a1 := (O5.out.lt b (bk_own h1)).2
    have a2 := (ho.lt b (bk_own h2)).1
    omega, fun b h1 h2 => by
    have a1 := (P5.out.lt b (bk_own h1)).2
    have a2 := (ho.lt b (bk_own h2)).1
    omega⟩)
   have R7 := Lib.hid (ho.mono hVs)
   obtain ⟨g0, g1, g2, g3, g4, g5, z0, z1, z2, z3, z4, z5, zl⟩ := S7.out
   clear g0 g1 g3 g4 g5 z0 z1 z3 z4 z5 zl ho hb
   go_wp2
   have hPl : LL.length = ll.length := HLL.out.1
   have S8 := (S7.out.s (.slice tA' tl.length tc')).2.2.1
   have hsz : (V7.setCell ⟨D, 2, none⟩ (.slice tA' tl.length tc')).heap.size = V7.heap.size := by simp
   go_end0
   ·refine ⟨⟨cA', cc', cl, lA', lc', LL, tA', tc', tl, st, inn, out⟩, rfl, ?_, ?_, T7.out.off (.inr (by decide)) _, B7.out.setCell (Nat.le_refl _) _⟩
    ·simp only [Stk.ab]
     rw [HLL.out.2.1]
    ·refine ⟨?_, O7.out.far (fun b hb => HFA.out b (O7.out.lt b hb).1) 2 _, ?_, R7.out.far (fun b hb => HFA.out b (R7.out.lt b hb).1) 2 _, fun q hq => ?_, fun q hq a ha => ?_, N3.out, N7.out.1, N7.out.2, HDL.out, by rw [hsz]; exact B7.out.size, HF.out⟩
     ·show Cells6 _ D _ (.slice lA' LL.length lc') _ _ _ _
      rw [hPl]
      exact S8
     ·show KL.Own _ _ (.slice lA' LL.length lc') LL
      rw [hPl]
      exact P7.out.far (fun b hb => HFA.out b (P7.out.lt b hb).1) 2 _
     ·obtain ⟨j, hj, rfl⟩ := List.getElem_of_mem hq
      have hj : j < LL.length := hj
      have e : LL.getD j lo0 = LL[j] := by rw [List.getD_eq_getElem?_getD, List.getElem?_eq_getElem hj]; rfl
      have h := (X7.out j (by omega))
      rw [e] at h
      rw [hsz]
      exact h.1.far (fun a ha => HFA.out _ (h.2 a ha).2.2.2) 2 _
     ·obtain ⟨j, hj, rfl⟩ := List.getElem_of_mem hq
      have hj : j < LL.length := hj
      have e : LL.getD j lo0 = LL[j] := by rw [List.getD_eq_getElem?_getD, List.getElem?_eq_getElem hj]; rfl
      have h := (X7.out j (by omega))
      rw [e] at h
      exact h.2 a ha
end Go.Proofs.YtacjonncakhhmaaGreat
