/- Sum, difference and product of two whole numbers: what the program and the reference answer. -/
import Derived.Test.YtmecohdedghiaaaGreatDoorPl06
import Derived.Test.YtmecohdedghiaaaGreatDoorChecked
import Derived.Test.YtmecohdedghiaaaGreatDoorPl00
import Derived.WalkKit
import Derived.WalkLawsBesides
import Derived.WalkSpells
import Derived.Outline
import Derived.KernelRfl
import Derived.Lib.Hide
namespace Go.Proofs.YtmecohdedghiaaaGreatDoor
open Go.RowKit
theorem gb_set (w : World) (b i : Nat) (v : Value) : w.grownBy (w.setCell ⟨b, i, none⟩ v) (some b) :=
 ⟨rfl, rfl, rfl, by simp, fun k _ hk => heap_setCell_other w _ k v (fun e => hk (by rw [e]))⟩
/-- Two cells of an own block. -/
def Cell2 (V : World) (D : Nat) (x y : Int) : Prop :=
 V.cell? ⟨D, 0, none⟩ = some (.int .i64 x) ∧ V.cell? ⟨D, 1, none⟩ = some (.int .i64 y) ∧ V.frozen? ⟨D, 0, none⟩ = false ∧ V.frozen? ⟨D, 1, none⟩ = false ∧ D < V.heap.size
theorem Cell2.new (V : World) (x y : Int) : Cell2 (V.alloc (.cells #[.int .i64 x, .int .i64 y] 134)) V.heap.size x y := by
 refine ⟨?_, ?_, ?_, ?_, ?_⟩ <;> simp
theorem Cell2.below {V V' : World} {D : Nat} {x y : Int} (h : Cell2 V D x y) (hb : Below V.heap.size V V') : Cell2 V' D x y := by
 obtain ⟨h0, h1, z0, z1, hs⟩ := h
 refine ⟨keep_cell hb h0, keep_cell hb h1, ?_, ?_, Nat.lt_of_lt_of_le hs hb.size⟩
 ·rw [hb.frozen (p := ⟨D, 0, none⟩) hs]; exact z0
 ·rw [hb.frozen (p := ⟨D, 1, none⟩) hs]; exact z1
theorem Cell2.set {V : World} {D : Nat} {x y : Int} (h : Cell2 V D x y) (p q : Int) : Cell2 ((V.setCell ⟨D, 0, none⟩ (.int .i64 p)).setCell ⟨D, 1, none⟩ (.int .i64 q)) D p q := by
 obtain ⟨h0, h1, z0, z1, hs⟩ := h
 refine ⟨st_other (st_same h0) (ad_nf (by omega)), st_same (st_other h1 (ad_nf (by omega))), st_fz (st_fz z0), st_fz (st_fz z1), ?_⟩
 simpa using hs
theorem fst_take (l : List T3) (k : Nat) (hk : k < l.length) (h0 : fstE (l.take k) = 0) (h : (l.getD k (0, 0, 0)).2.2 = 0) : fstE (l.take (k + 1)) = 0 := by
 rw [take_snoc l k (0, 0, 0) hk, fst_append, if_pos h0, fstE, if_pos h]
 rfl
theorem fst_stop (l : List T3) (k : Nat) (hk : k < l.length) (h0 : fstE (l.take k) = 0) (e : Int) (he : e ≠ 0) (h : (l.getD k (0, 0, 0)).2.2 = e) : fstE l = e := by
 have hl : l = l.take k ++ (l.getD k (0, 0, 0) :: l.drop (k + 1)) := by rw [← drop_snoc l k (0, 0, 0) hk, List.take_append_drop]
 generalize l.getD k (0, 0, 0) = t at *
 rw [hl, fst_append, if_pos h0, fstE, if_neg (by rw [h]; exact he), h]
theorem pairs_take (l : List T3) (k : Nat) (hk : k < l.length) : pairs (l.take (k + 1)) = pairs (l.take k) ++ [(((l.getD k (0, 0, 0)).1 : Int), ((l.getD k (0, 0, 0)).2.1 : Int))] := by
 rw [take_snoc l k (0, 0, 0) hk, pairs_append]
 rfl
theorem tab_at (d : Dk) (h : dchk d = 0) (k : Nat) (hk : k < (partsK d).length) : (tabP d).getD k (0, 0, 0) = spnP d ((partsK d).getD k ⟨0, 0, 0, 0⟩) := by
 have e : partsK d = partsL d := if_pos h
 rw [e] at hk ⊢
 rw [List.getD_eq_getElem?_getD, List.getD_eq_getElem?_getD]
 unfold tabP
 rw [List.getElem?_map, List.getElem?_eq_getElem hk]
 rfl
theorem spn_good (d : Dk) {w : World} (hd : d.In w w.heap.size) (p : Q4) (hp : p ∈ partsK d) (h : (spnP d p).2.2 = 0) : (spnP d p).1 ≤ (spnP d p).2.1 ∧ (spnP d p).2.1 ≤ 23 := by
 have hz : OkD d := by
  unfold partsK at hp
  by_cases e : dchk d = 0
  ·exact dchk_ok d e
  ·rw [if_neg e] at hp; cases hp
 rcases part_lies d p hp with ⟨h3, h0⟩ | hl
 ·have hb := (parts_okP d p hp).2.2.1
  unfold spnP
  rw [if_pos h3]
  dsimp only
  omega
 ·have h3 : p.a ≠ 3 := by rcases hl with h | h <;> omega
  have e : spnP d p = covV d.bl (rkOf d p).x (rkOf d p).p (rkOf d p).r (cf p.d) := by unfold spnP; rw [if_neg h3]
  rw [e] at h ⊢
  obtain ⟨g1, g2, g3⟩ := cov_good d.bl _ _ _ _ (rkOf_ok hd p hl) h
  exact ⟨g1, by omega⟩
set_option maxRecDepth 100000 in
set_option maxHeartbeats 8000000 in
theorem rtable_any (d : Dk) (w : World) (hd : d.In w w.heap.size) : Calls Tryz.prog 148 #[d.v] w fun e w' => ∃ v, e = .returned (.tuple #[v, .int .i64 (zchk d)]) ∧ KS.Own w' w.heap.size v (tabV d) ∧ Below w.heap.size w w' := by
 have HD := Lib.hid hd
 have HC := Lib.hid (fun w h => rdcheck_any d w h)
 have HRP := Lib.hid (fun w h => rparts_any d w h)
 obtain ⟨w0, hw0⟩ : ∃ w0, w0 = w.alloc (.cells #[.slice d.bA d.bn d.bc, .slice d.pA d.pn d.pc, .slice d.rA d.rn d.rc, .int .i64 d.arms] 26) := ⟨_, rfl⟩
 have HB0 := Lib.hid (show Below w.heap.size w w0 by rw [hw0]; exact Below.al (Below.refl _ _) _)
 have HD0 := Lib.hid (HD.out.then HB0.out)
 have HF := Lib.hid (show ∀ w1, Below w0.heap.size w0 w1 → (w1.cell? ⟨w.heap.size, 0, none⟩ = some (.slice d.bA d.bn d.bc) ∧ w1.cell? ⟨w.heap.size, 1, none⟩ = some (.slice d.pA d.pn d.pc) ∧ w1.cell? ⟨w.heap.size, 2, none⟩ = some (.slice d.rA d.rn d.rc) ∧ w1.cell? ⟨w.heap.size, 3, none⟩ = some (.int .i64 d.arms)) from by
   intro w1 hb
   refine ⟨keep_cell hb ?_, keep_cell hb ?_, keep_cell hb ?_, keep_cell hb ?_⟩
   all_goals (rw [hw0]; simp))
 by_cases hz : dchk d = 0
 ·have HZ := Lib.hid (show zchk d = fstE (tabP d) by rw [fst_tab d (dchk_ok d hz)]; unfold zchk; rw [if_pos hz])
  have HTV := Lib.hid (show tabV d = if fstE (tabP d) = 0 then pairs (tabP d) else [] by rw [← HZ.out]; rfl)
  have HTA := Lib.hid (fun k hk => tab_at d hz k hk)
  have HTL := Lib.hid (show (tabP d).length = (partsK d).length by rw [tab_len0]; unfold partsK; rw [if_pos hz])
  have HPL := Lib.hid (parts_len d)
  have HP0 := Lib.hid (fun p hp => part_lies d p hp)
  have HSG := Lib.hid (fun p hp h => spn_good d HD.out p hp h)
  have HPS := Lib.hid (fun (w : World) (h : d.In w w.heap.size) p hp => rpartS_any d p w h hp)
  rw [HZ.out, HTV.out]
  obtain ⟨E, hE⟩ : ∃ E, E = fstE (tabP d) := ⟨_, rfl⟩
  obtain ⟨TV, hTV⟩ : ∃ TV, TV = if fstE (tabP d) = 0 then pairs (tabP d) else [] := ⟨_, rfl⟩
  rw [← hTV, ← hE]
  have HEE := Lib.hid (show E = fstE (tabP d) from hE)
  have HTT := Lib.hid (show TV = if E = 0 then pairs (tabP d) else [] by rw [hTV, hE])
  clear hE hTV
  rw [hz] at HC
  clear hz hd HZ HTV
  have HFT := Lib.hid (fst_take (tabP d))
  have HFS := Lib.hid (fst_stop (tabP d))
  have HPT := Lib.hid (pairs_take (tabP d))
  generalize partsK d = PS at *
  generalize tabP d = TT at *
  go_enter Tryz.func148, Tryz.ntmps148
  go_wp2_with fail
  rw [← hw0]
  clear hw0
  refine (HC.out _ HD0.out).mono ?_
  rintro e w1 ⟨rfl, hb1⟩
  obtain ⟨d0, d1, d2, d3⟩ := HF.out w1 hb1
  have HB1 := Lib.hid hb1
  clear hb1
  go_wp2_with fail
  refine (HRP.out w1 (HD0.out.then HB1.out)).mono ?_
  rintro e w2 ⟨v, rfl, hown2, hb2⟩
  have HB2 := Lib.hid (Below.call HB1.out hb2)
  have HIL := Lib.hid (hown2.isL (by have := HPL.out; omega))
  clear hb2 hown2 d0 d1 d2 d3
  obtain ⟨A, cap, rfl⟩ : ∃ A cap, v = .slice A PS.length cap := by
   obtain ⟨⟨A, cap, h, _⟩, _⟩ := HIL.out
   exact ⟨A, cap, h⟩
  go_wp2_with fail
  obtain ⟨Q, hQ⟩ : ∃ Q, Q = w2.heap.size := ⟨_, rfl⟩
  have HQS := Lib.hid (show w.heap.size ≤ Q by rw [hQ]; exact Nat.le_trans HB0.out.size HB2.out.size)
  go_loopw [5, 7] (fun u i wr => ∃ k : Nat, k ≤ PS.length ∧ i = .int .i64 k ∧ fstE (TT.take k) = 0 ∧ KS.Own wr w2.heap.size u (pairs (TT.take k)) ∧ Below w2.heap.size w2 wr) (fun _ i _ => PS.length - (intOf i).toNat)
  case atStart => exact ⟨0, Nat.zero_le _, rfl, rfl, Lk.Own.nil _ _, Below.refl _ _⟩
  case round =>
   obtain ⟨k, hk, rfl, hf, hown, hbl⟩ := hrel
   have HO := Lib.hid hown
   have HB := Lib.hid hbl
   have HE0 := Lib.hid hf
   have h8 := HPL.out
   clear hown hbl hf
   by_cases hlt : k < PS.length
   ·obtain ⟨b, off, rfl, hb, hc, hcell⟩ := q4_cells (K := KQ) rfl rfl rfl (HIL.out.below HB.out) (by omega)
    obtain ⟨c0, c1, c2, c3⟩ := hcell k hlt
    have hmem := getD_mem' PS k ⟨0, 0, 0, 0⟩ hlt
    have HP0' := Lib.hid (HP0.out _ hmem)
    have HT3 := Lib.hid (HTA.out k hlt)
    have HSG' := Lib.hid (HSG.out _ hmem)
    have hltT : k < TT.length := by rw [HTL.out]; exact hlt
    have HFT' := Lib.hid (HFT.out k hltT HE0.out)
    have HFS' := Lib.hid (HFS.out k hltT HE0.out)
    have HPT' := Lib.hid (HPT.out k hltT)
    obtain ⟨d0, d1, d2, d3⟩ := HF.out wr (Below.call HB2.out HB.out)
    obtain ⟨p, hp⟩ : ∃ p, p = PS.getD k ⟨0, 0, 0, 0⟩ := ⟨_, rfl⟩
    rw [← hp] at c0 c1 c2 c3 HP0' HT3 HSG'
    have HKP := Lib.hid (fun (V : World) (h : Below w2.heap.size w2 V) => HPS.out V (HD0.out.then (Below.call HB2.out h)) p HP0'.out)
    rw [HT3.out] at HFT' HFS' HPT'
    have hlen : (pairs (TT.take k)).length = k := by rw [pairs_len, List.length_take]; omega
    have HLen := Lib.hid hlen
    clear hcell hp hmem hltT HT3 hlen
    generalize spnP d p = t at *
    obtain ⟨t1, t2, t3⟩ := t
    unfold rchVal at HKP
    dsimp only at *
    generalize pairs (TT.take k) = L at *
    obtain ⟨pa, pb, pc, pd⟩ := p
    dsimp only at *
    have CK := Lib.hid (And.intro c0 (And.intro c1 (And.intro c2 c3)))
    have NB := Lib.hid (show b < w2.heap.size from hb)
    by_cases ht : t3 = 0
    ·subst ht
     have HG := Lib.hid (HSG'.out rfl)
     have HN1 := Lib.hid (HFT'.out rfl)
     clear HFS' HFT' HSG'
     go_wp2_with fail
     refine wp_region_held_drew (S := fun w' => w'.cell? ⟨w.heap.size, 0, none⟩ = some (.slice d.bA d.bn d.bc) ∧ w'.cell? ⟨w.heap.size, 1, none⟩ = some (.slice d.pA d.pn d.pc) ∧ w'.cell? ⟨w.heap.size, 2, none⟩ = some (.slice d.rA d.rn d.rc) ∧ w'.cell? ⟨w.heap.size, 3, none⟩ = some (.int .i64 d.arms) ∧ w'.cell? ⟨b, off + k * 4, none⟩ = some (.int .i64 pa) ∧ w'.cell? ⟨b, off + k * 4 + 1, none⟩ = some (.int .i64 pb) ∧ w'.cell? ⟨b, off + k * 4 + 2, none⟩ = some (.int .i64 pc) ∧ w'.cell? ⟨b, off + k * 4 + 3, none⟩ = some (.int .i64 pd)) (by kernel_rfl) ?_ (fun hHeld => ?_)
     ·exact ⟨d0, d1, d2, d3, c0, c1, c2, c3⟩
     refine wpAnyH_take (i := 0) (oi := ⟨some 24, _, _, _, _, _⟩) (v := ?_) rfl (by kernel_rfl) (by kernel_rfl) (by kernel_rfl) (fun _ _ _ h => h) (Or.inl ⟨by kernel_rfl, ?_⟩) (by assumption) ?_
     rotate_left 1
     ·((intro w hSw; (try dsimp only at hSw); go_simp) <;> (try with_reducible rfl))
     (try simp only [Act.put, List.setIfInBounds_toArray, List.set_cons_zero, List.set_cons_succ])
     refine wpAnyH_take (i := 1) (oi := ⟨some 25, _, _, _, _, _⟩) (v := ?_) rfl (by kernel_rfl) (by kernel_rfl) (by kernel_rfl) (fun _ _ _ h => h) (Or.inl ⟨by kernel_rfl, ?_⟩) (by assumption) ?_
     rotate_left 1
     ·((intro w hSw; (try dsimp only at hSw); go_simp) <;> (try with_reducible rfl))
     (try simp only [Act.put, List.setIfInBounds_toArray, List.set_cons_zero, List.set_cons_succ])
     refine wpAnyH_take (i := 2) (oi := ⟨some 26, _, _, _, _, _⟩) (v := ?_) rfl (by kernel_rfl) (by kernel_rfl) (by kernel_rfl) (fun _ _ _ h => h) (Or.inl ⟨by kernel_rfl, ?_⟩) (by assumption) ?_
     rotate_left 1
     ·((intro w hSw; (try dsimp only at hSw); go_simp) <;> (try with_reducible rfl))
     (try simp only [Act.put, List.setIfInBounds_toArray, List.set_cons_zero, List.set_cons_succ])
     refine wpAnyH_take (i := 3) (oi := ⟨some 27, _, _, _, _, _⟩) (v := ?_) rfl (by kernel_rfl) (by kernel_rfl) (by kernel_rfl) (fun _ _ _ h => h) (Or.inl ⟨by kernel_rfl, ?_⟩) (by assumption) ?_
     rotate_left 1
     ·((intro w hSw; (try dsimp only at hSw); go_simp) <;> (try with_reducible rfl))
     (try simp only [Act.put, List.setIfInBounds_toArray, List.set_cons_zero, List.set_cons_succ])
     refine wpAnyH_take (i := 4) (oi := ⟨some 28, _, _, _, _, _⟩) (v := ?_) rfl (by kernel_rfl) (by kernel_rfl) (by kernel_rfl) (fun _ _ _ h => h) (Or.inl ⟨by kernel_rfl, ?_⟩) (by assumption) ?_
     rotate_left 1
     ·((intro w hSw; (try dsimp only at hSw); go_simp) <;> (try with_reducible rfl))
     (try simp only [Act.put, List.setIfInBounds_toArray, List.set_cons_zero, List.set_cons_succ])
     clear d0 d1 d2 d3 c0 c1 c2 c3
     have O0 := Lib.hid (show KS.Own wr.drew w2.heap.size u5 L from HO.out.drew)
     have F0 := Lib.hid (show Below w2.heap.size w2 wr.drew from HB.out.drew)
     have C0 := Lib.hid (show wr.drew.cell? ⟨b, off + k * 4, none⟩ = some (.int .i64 pa) ∧ wr.drew.cell? ⟨b, off + k * 4 + 1, none⟩ = some (.int .i64 pb) ∧ wr.drew.cell? ⟨b, off + k * 4 + 2, none⟩ = some (.int .i64 pc) ∧ wr.drew.cell? ⟨b, off + k * 4 + 3, none⟩ = some (.int .i64 pd) from CK.out)
     generalize wr.drew = v0 at *
     refine wpAnyH_ready (rs := [5, 9]) (by kernel_rfl) (by simp) ?_
     refine AllReadyH.cons (o := ⟨some 29, _, _, _, _, _⟩) rfl (fun K hK => ?_) ?_
     ·go_simp
      refine (HKP.out v0 F0.out).mono ?_
      rintro e v1 ⟨rfl, hb⟩
      have O1 := Lib.hid (O0.out.below hb)
      have F1 := Lib.hid (Below.call F0.out hb)
      have C1 := Lib.hid (And.intro (keep_cell hb C0.out.1) (And.intro (keep_cell hb C0.out.2.1) (And.intro (keep_cell hb C0.out.2.2.1) (keep_cell hb C0.out.2.2.2))))
      clear hb O0 F0 C0
      go_wp2_with fail
      refine hK.out _ _ ?_ (fun hHeld => ?_)
      ·have hx := HF.out _ (Below.call HB2.out F1.out)
       exact ⟨hx.1, hx.2.1, hx.2.2.1, hx.2.2.2, C1.out.1, C1.out.2.1, C1.out.2.2.1, C1.out.2.2.2⟩
      clear hK K
      (try simp only [Act.put, List.setIfInBounds_toArray, List.set_cons_zero, List.set_cons_succ])
      refine wpAnyH_take (i := 6) (oi := ⟨some 23, _, _, _, _, _⟩) (v := ?_) rfl (by kernel_rfl) (by kernel_rfl) (by kernel_rfl) (fun _ _ _ h => h) (Or.inl ⟨by kernel_rfl, ?_⟩) (by assumption) ?_
      rotate_left 1
      ·((intro w hSw; (try dsimp only at hSw); go_simp) <;> (try with_reducible rfl))
      (try simp only [Act.put, List.setIfInBounds_toArray, List.set_cons_zero, List.set_cons_succ])
      refine wpAnyH_take (i := 7) (oi := ⟨some 30, _, _, _, _, _⟩) (v := ?_) rfl (by kernel_rfl) (by kernel_rfl) (by kernel_rfl) (fun _ _ _ h => h) (Or.inl ⟨by kernel_rfl, ?_⟩) (by assumption) ?_
      rotate_left 1
      ·((intro w hSw; (try dsimp only at hSw); go_simp) <;> (try with_reducible rfl))
      (try simp only [Act.put, List.setIfInBounds_toArray, List.set_cons_zero, List.set_cons_succ])
      refine wpAnyH_take (i := 8) (oi := ⟨some 31, _, _, _, _, _⟩) (v := ?_) rfl (by kernel_rfl) (by kernel_rfl) (by kernel_rfl) (fun _ _ _ h => h) (Or.inl ⟨by kernel_rfl, ?_⟩) (by assumption) ?_
      rotate_left 1
      ·((intro w hSw; (try dsimp only at hSw); go_simp) <;> (try with_reducible rfl))
      (try simp only [Act.put, List.setIfInBounds_toArray, List.set_cons_zero, List.set_cons_succ])
      refine wpAnyH_ready (rs := [9]) (by kernel_rfl) (by simp) ?_
      refine AllReadyH.cons (o := ⟨some 8, _, _, _, _, _⟩) rfl (fun K hK => ?_) AllReadyH.nil
      go_simp
      have hb := Below.al (Below.refl _ v1) (.cells #[.int .i64 0, .int .i64 0] 134)
      have O2 := Lib.hid (O1.out.below hb)
      have F2 := Lib.hid (Below.call F1.out hb)
      have C2 := Lib.hid (And.intro (keep_cell hb C1.out.1) (And.intro (keep_cell hb C1.out.2.1) (And.intro (keep_cell hb C1.out.2.2.1) (keep_cell hb C1.out.2.2.2))))
      have D2 := Lib.hid (Cell2.new v1 0 0)
      have NE := Lib.hid (show w2.heap.size ≤ v1.heap.size from F1.out.size)
      have NO := Lib.hid (show u5.ownBlock = none ∨ u5.ownBlock ≠ some v1.heap.size from .inr (fun e => Nat.lt_irrefl _ (O1.out.lt _ e).2))
      clear hb O1 F1 C1
      generalize v1.alloc (.cells #[.int .i64 0, .int .i64 0] 134) = v2 at *
      generalize v1.heap.size = D at *
      refine hK.out _ _ ?_ (fun hHeld => ?_)
      ·have hx := HF.out _ (Below.call HB2.out F2.out)
       exact ⟨hx.1, hx.2.1, hx.2.2.1, hx.2.2.2, C2.out.1, C2.out.2.1, C2.out.2.2.1, C2.out.2.2.2⟩
      clear hK K
      (try simp only [Act.put, List.setIfInBounds_toArray, List.set_cons_zero, List.set_cons_succ])
      refine wpAnyH_ready (rs := [10]) (by kernel_rfl) (by simp) ?_
      refine AllReadyH.cons (o := ⟨none, _, _, _, _, _⟩) rfl (fun K hK => ?_) AllReadyH.nil
      obtain ⟨s0, s1, y0, y1, _⟩ := D2.out
      go_simp
      clear s0 s1 y0 y1
      have hgs := gb_trans (gb_set v2 D 0 (.int .i64 t1)) (gb_set (v2.setCell ⟨D, 0, none⟩ (.int .i64 t1)) D 1 (.int .i64 t2))
      have OX := Lib.hid (show KS.Own ((v2.setCell ⟨D, 0, none⟩ (.int .i64 t1)).setCell ⟨D, 1, none⟩ (.int .i64 t2)) w2.heap.size u5 L from O2.out.kept hgs NO.out)
      have FX := Lib.hid (show Below w2.heap.size w2 ((v2.setCell ⟨D, 0, none⟩ (.int .i64 t1)).setCell ⟨D, 1, none⟩ (.int .i64 t2)) from Below.st (Below.st F2.out NE.out) NE.out)
      have DX := Lib.hid (show Cell2 ((v2.setCell ⟨D, 0, none⟩ (.int .i64 t1)).setCell ⟨D, 1, none⟩ (.int .i64 t2)) D t1 t2 from D2.out.set t1 t2)
      clear hgs
      have hbn : b ≠ D := by have := NE.out; omega
      have CX := Lib.hid (show ((v2.setCell ⟨D, 0, none⟩ (.int .i64 t1)).setCell ⟨D, 1, none⟩ (.int .i64 t2)).cell? ⟨b, off + k * 4, none⟩ = some (.int .i64 pa) ∧ ((v2.setCell ⟨D, 0, none⟩ (.int .i64 t1)).setCell ⟨D, 1, none⟩ (.int .i64 t2)).cell? ⟨b, off + k * 4 + 1, none⟩ = some (.int .i64 pb) ∧ ((v2.setCell ⟨D, 0, none⟩ (.int .i64 t1)).setCell ⟨D, 1, none⟩ (.int .i64 t2)).cell? ⟨b, off + k * 4 + 2, none⟩ = some (.int .i64 pc) ∧ ((v2.setCell ⟨D, 0, none⟩ (.int .i64 t1)).setCell ⟨D, 1, none⟩ (.int .i64 t2)).cell? ⟨b, off + k * 4 + 3, none⟩ = some (.int .i64 pd) from ⟨st_other (st_other C2.out.1 (ad_nf (.inl (Ne.symm hbn)))) (ad_nf (.inl (Ne.symm hbn))), st_other (st_other C2.out.2.1 (ad_nf (.inl (Ne.symm hbn)))) (ad_nf (.inl (Ne.symm hbn))), st_other (st_other C2.out.2.2.1 (ad_nf (.inl (Ne.symm hbn)))) (ad_nf (.inl (Ne.symm hbn))), st_other (st_other C2.out.2.2.2 (ad_nf (.inl (Ne.symm hbn)))) (ad_nf (.inl (Ne.symm hbn)))⟩)
      refine hK.out _ _ ?_ (fun hHeld => ?_)
      ·have hx := HF.out _ (Below.call HB2.out FX.out)
       exact ⟨hx.1, hx.2.1, hx.2.2.1, hx.2.2.2, CX.out.1, CX.out.2.1, CX.out.2.2.1, CX.out.2.2.2⟩
      clear hK K
      (try simp only [Act.put, List.setIfInBounds_toArray, List.set_cons_zero, List.set_cons_succ])
      refine wpAnyH_take (i := 11) (oi := ⟨some 9, _, _, _, _, _⟩) (v := ?_) rfl (by kernel_rfl) (by kernel_rfl) (by kernel_rfl) (fun _ _ _ h => h) (Or.inl ⟨by kernel_rfl, ?_⟩) (by assumption) ?_
      rotate_left 1
      ·((intro w hSw; (try dsimp only at hSw); go_simp) <;> (try with_reducible rfl))
      (try simp only [Act.put, List.setIfInBounds_toArray, List.set_cons_zero, List.set_cons_succ])
      refine wpAnyH_done (by kernel_rfl) ?_ _
      clear hHeld O2 F2 C2 D2
      generalize ((v2.setCell ⟨D, 0, none⟩ (.int .i64 t1)).setCell ⟨D, 1, none⟩ (.int .i64 t2)) = vx at *
      obtain ⟨s0, s1, y0, y1, _⟩ := DX.out
      have HOKT := Lib.hid (show KS.ok ((t1 : Int), (t2 : Int)) from ⟨show fits (t1 : Int) by have := HG.out; unfold fits; omega, show fits (t2 : Int) by have := HG.out; unfold fits; omega⟩)
      go_wp2_with (at_builtin; refine Lk.wpList_app (K := KS) _ rfl _ _ rfl rfl w2.heap.size (vx.heap.size + 1) _ _ L [((t1 : Int), (t2 : Int))] rfl rfl (OX.out.alloc _) (Lk.IsL.lit (K := KS) _ ((t1 : Int), (t2 : Int)) _ HOKT.out rfl vx.heap.size rfl) ?c1 ?c2 ?_)
      case c1 => have := HLen.out; simp; omega
      case c2 => have := FX.out.size; simp; omega
      intro v9 w9 hown hgrow _
      have HO9 := Lib.hid hown
      have HB9 := Lib.hid (Lk.Own.grow' (OX.out.alloc (.cells #[.int .i64 t1, .int .i64 t2] 134)) (Below.al FX.out _) (by have := FX.out.size; simp; omega) hgrow)
      clear hown hgrow
      go_wp2
      go_roundw
      case rel => exact ⟨k + 1, by omega, num_i (by omega), HN1.out, by rw [HPT'.out]; exact HO9.out, HB9.out⟩
      case measure => simp [intOf]; omega
     refine AllReadyH.cons (o := ⟨some 8, _, _, _, _, _⟩) rfl (fun K hK => ?_) ?_
     ·go_simp
      have hb := Below.al (Below.refl _ v0) (.cells #[.int .i64 0, .int .i64 0] 134)
      have O3 := Lib.hid (O0.out.below hb)
      have F3 := Lib.hid (Below.call F0.out hb)
      have C3 := Lib.hid (And.intro (keep_cell hb C0.out.1) (And.intro (keep_cell hb C0.out.2.1) (And.intro (keep_cell hb C0.out.2.2.1) (keep_cell hb C0.out.2.2.2))))
      have D3 := Lib.hid (Cell2.new v0 0 0)
      have NE := Lib.hid (show w2.heap.size ≤ v0.heap.size from F0.out.size)
      have NO := Lib.hid (show u5.ownBlock = none ∨ u5.ownBlock ≠ some v0.heap.size from .inr (fun e => Nat.lt_irrefl _ (O0.out.lt _ e).2))
      clear hb O0 F0 C0
      generalize v0.alloc (.cells #[.int .i64 0, .int .i64 0] 134) = v3 at *
      generalize v0.heap.size = D at *
      refine hK.out _ _ ?_ (fun hHeld => ?_)
      ·have hx := HF.out _ (Below.call HB2.out F3.out)
       exact ⟨hx.1, hx.2.1, hx.2.2.1, hx.2.2.2, C3.out.1, C3.out.2.1, C3.out.2.2.1, C3.out.2.2.2⟩
      clear hK K
      (try simp only [Act.put, List.setIfInBounds_toArray, List.set_cons_zero, List.set_cons_succ])
      refine wpAnyH_ready (rs := [5]) (by kernel_rfl) (by simp) ?_
      refine AllReadyH.cons (o := ⟨some 29, _, _, _, _, _⟩) rfl (fun K hK => ?_) AllReadyH.nil
      go_simp
      refine (HKP.out v3 F3.out).mono ?_
      rintro e v4 ⟨rfl, hb⟩
      have O4 := Lib.hid (O3.out.below hb)
      have F4 := Lib.hid (Below.call F3.out hb)
      have C4 := Lib.hid (And.intro (keep_cell hb C3.out.1) (And.intro (keep_cell hb C3.out.2.1) (And.intro (keep_cell hb C3.out.2.2.1) (keep_cell hb C3.out.2.2.2))))
      have D4 := Lib.hid (D3.out.below hb)
      clear hb O3 F3 C3 D3
      go_wp2_with fail
      refine hK.out _ _ ?_ (fun hHeld => ?_)
      ·have hx := HF.out _ (Below.call HB2.out F4.out)
       exact ⟨hx.1, hx.2.1, hx.2.2.1, hx.2.2.2, C4.out.1, C4.out.2.1, C4.out.2.2.1, C4.out.2.2.2⟩
      clear hK K
      (try simp only [Act.put, List.setIfInBounds_toArray, List.set_cons_zero, List.set_cons_succ])
      refine wpAnyH_take (i := 6) (oi := ⟨some 23, _, _, _, _, _⟩) (v := ?_) rfl (by kernel_rfl) (by kernel_rfl) (by kernel_rfl) (fun _ _ _ h => h) (Or.inl ⟨by kernel_rfl, ?_⟩) (by assumption) ?_
      rotate_left 1
      ·((intro w hSw; (try dsimp only at hSw); go_simp) <;> (try with_reducible rfl))
      (try simp only [Act.put, List.setIfInBounds_toArray, List.set_cons_zero, List.set_cons_succ])
      refine wpAnyH_take (i := 7) (oi := ⟨some 30, _, _, _, _, _⟩) (v := ?_) rfl (by kernel_rfl) (by kernel_rfl) (by kernel_rfl) (fun _ _ _ h => h) (Or.inl ⟨by kernel_rfl, ?_⟩) (by assumption) ?_
      rotate_left 1
      ·((intro w hSw; (try dsimp only at hSw); go_simp) <;> (try with_reducible rfl))
      (try simp only [Act.put, List.setIfInBounds_toArray, List.set_cons_zero, List.set_cons_succ])
      refine wpAnyH_take (i := 8) (oi := ⟨some 31, _, _, _, _, _⟩) (v := ?_) rfl (by kernel_rfl) (by kernel_rfl) (by kernel_rfl) (fun _ _ _ h => h) (Or.inl ⟨by kernel_rfl, ?_⟩) (by assumption) ?_
      rotate_left 1
      ·((intro w hSw; (try dsimp only at hSw); go_simp) <;> (try with_reducible rfl))
      (try simp only [Act.put, List.setIfInBounds_toArray, List.set_cons_zero, List.set_cons_succ])
      refine wpAnyH_ready (rs := [10]) (by kernel_rfl) (by simp) ?_
      refine AllReadyH.cons (o := ⟨none, _, _, _, _, _⟩) rfl (fun K hK => ?_) AllReadyH.nil
      obtain ⟨s0, s1, y0, y1, _⟩ := D4.out
      go_simp
      clear s0 s1 y0 y1
      have hgs := gb_trans (gb_set v4 D 0 (.int .i64 t1)) (gb_set (v4.setCell ⟨D, 0, none⟩ (.int .i64 t1)) D 1 (.int .i64 t2))
      have OX := Lib.hid (show KS.Own ((v4.setCell ⟨D, 0, none⟩ (.int .i64 t1)).setCell ⟨D, 1, none⟩ (.int .i64 t2)) w2.heap.size u5 L from O4.out.kept hgs NO.out)
      have FX := Lib.hid (show Below w2.heap.size w2 ((v4.setCell ⟨D, 0, none⟩ (.int .i64 t1)).setCell ⟨D, 1, none⟩ (.int .i64 t2)) from Below.st (Below.st F4.out NE.out) NE.out)
      have DX := Lib.hid (show Cell2 ((v4.setCell ⟨D, 0, none⟩ (.int .i64 t1)).setCell ⟨D, 1, none⟩ (.int .i64 t2)) D t1 t2 from D4.out.set t1 t2)
      clear hgs
      have hbn : b ≠ D := by have := NE.out; omega
      have CX := Lib.hid (show ((v4.setCell ⟨D, 0, none⟩ (.int .i64 t1)).setCell ⟨D, 1, none⟩ (.int .i64 t2)).cell? ⟨b, off + k * 4, none⟩ = some (.int .i64 pa) ∧ ((v4.setCell ⟨D, 0, none⟩ (.int .i64 t1)).setCell ⟨D, 1, none⟩ (.int .i64 t2)).cell? ⟨b, off + k * 4 + 1, none⟩ = some (.int .i64 pb) ∧ ((v4.setCell ⟨D, 0, none⟩ (.int .i64 t1)).setCell ⟨D, 1, none⟩ (.int .i64 t2)).cell? ⟨b, off + k * 4 + 2, none⟩ = some (.int .i64 pc) ∧ ((v4.setCell ⟨D, 0, none⟩ (.int .i64 t1)).setCell ⟨D, 1, none⟩ (.int .i64 t2)).cell? ⟨b, off + k * 4 + 3, none⟩ = some (.int .i64 pd) from ⟨st_other (st_other C4.out.1 (ad_nf (.inl (Ne.symm hbn)))) (ad_nf (.inl (Ne.symm hbn))), st_other (st_other C4.out.2.1 (ad_nf (.inl (Ne.symm hbn)))) (ad_nf (.inl (Ne.symm hbn))), st_other (st_other C4.out.2.2.1 (ad_nf (.inl (Ne.symm hbn)))) (ad_nf (.inl (Ne.symm hbn))), st_other (st_other C4.out.2.2.2 (ad_nf (.inl (Ne.symm hbn)))) (ad_nf (.inl (Ne.symm hbn)))⟩)
      refine hK.out _ _ ?_ (fun hHeld => ?_)
      ·have hx := HF.out _ (Below.call HB2.out FX.out)
       exact ⟨hx.1, hx.2.1, hx.2.2.1, hx.2.2.2, CX.out.1, CX.out.2.1, CX.out.2.2.1, CX.out.2.2.2⟩
      clear hK K
      (try simp only [Act.put, List.setIfInBounds_toArray, List.set_cons_zero, List.set_cons_succ])
      refine wpAnyH_take (i := 11) (oi := ⟨some 9, _, _, _, _, _⟩) (v := ?_) rfl (by kernel_rfl) (by kernel_rfl) (by kernel_rfl) (fun _ _ _ h => h) (Or.inl ⟨by kernel_rfl, ?_⟩) (by assumption) ?_
      rotate_left 1
      ·((intro w hSw; (try dsimp only at hSw); go_simp) <;> (try with_reducible rfl))
      (try simp only [Act.put, List.setIfInBounds_toArray, List.set_cons_zero, List.set_cons_succ])
      refine wpAnyH_done (by kernel_rfl) ?_ _
      clear hHeld O4 F4 C4 D4
      generalize ((v4.setCell ⟨D, 0, none⟩ (.int .i64 t1)).setCell ⟨D, 1, none⟩ (.int .i64 t2)) = vx at *
      obtain ⟨s0, s1, y0, y1, _⟩ := DX.out
      have HOKT := Lib.hid (show KS.ok ((t1 : Int), (t2 : Int)) from ⟨show fits (t1 : Int) by have := HG.out; unfold fits; omega, show fits (t2 : Int) by have := HG.out; unfold fits; omega⟩)
      go_wp2_with (at_builtin; refine Lk.wpList_app (K := KS) _ rfl _ _ rfl rfl w2.heap.size (vx.heap.size + 1) _ _ L [((t1 : Int), (t2 : Int))] rfl rfl (OX.out.alloc _) (Lk.IsL.lit (K := KS) _ ((t1 : Int), (t2 : Int)) _ HOKT.out rfl vx.heap.size rfl) ?c1 ?c2 ?_)
      case c1 => have := HLen.out; simp; omega
      case c2 => have := FX.out.size; simp; omega
      intro v9 w9 hown hgrow _
      have HO9 := Lib.hid hown
      have HB9 := Lib.hid (Lk.Own.grow' (OX.out.alloc (.cells #[.int .i64 t1, .int .i64 t2] 134)) (Below.al FX.out _) (by have := FX.out.size; simp; omega) hgrow)
      clear hown hgrow
      go_wp2
      go_roundw
      case rel => exact ⟨k + 1, by omega, num_i (by omega), HN1.out, by rw [HPT'.out]; exact HO9.out, HB9.out⟩
      case measure => simp [intOf]; omega
     exact AllReadyH.nil
    ·have HER := Lib.hid (HFS'.out t3 ht rfl)
     have q1 : (t3 != 0) = true := by rw [bne_iff_ne]; exact ht
     have HNE := Lib.hid ht
     clear HFS' HFT' HSG' ht
     go_wp2_with fail
     refine wp_region_held_drew (S := fun w' => w'.cell? ⟨w.heap.size, 0, none⟩ = some (.slice d.bA d.bn d.bc) ∧ w'.cell? ⟨w.heap.size, 1, none⟩ = some (.slice d.pA d.pn d.pc) ∧ w'.cell? ⟨w.heap.size, 2, none⟩ = some (.slice d.rA d.rn d.rc) ∧ w'.cell? ⟨w.heap.size, 3, none⟩ = some (.int .i64 d.arms) ∧ w'.cell? ⟨b, off + k * 4, none⟩ = some (.int .i64 pa) ∧ w'.cell? ⟨b, off + k * 4 + 1, none⟩ = some (.int .i64 pb) ∧ w'.cell? ⟨b, off + k * 4 + 2, none⟩ = some (.int .i64 pc) ∧ w'.cell? ⟨b, off + k * 4 + 3, none⟩ = some (.int .i64 pd)) (by kernel_rfl) ?_ (fun hHeld => ?_)
     ·exact ⟨d0, d1, d2, d3, c0, c1, c2, c3⟩
     refine wpAnyH_take (i := 0) (oi := ⟨some 24, _, _, _, _, _⟩) (v := ?_) rfl (by kernel_rfl) (by kernel_rfl) (by kernel_rfl) (fun _ _ _ h => h) (Or.inl ⟨by kernel_rfl, ?_⟩) (by assumption) ?_
     rotate_left 1
     ·((intro w hSw; (try dsimp only at hSw); go_simp) <;> (try with_reducible rfl))
     (try simp only [Act.put, List.setIfInBounds_toArray, List.set_cons_zero, List.set_cons_succ])
     refine wpAnyH_take (i := 1) (oi := ⟨some 25, _, _, _, _, _⟩) (v := ?_) rfl (by kernel_rfl) (by kernel_rfl) (by kernel_rfl) (fun _ _ _ h => h) (Or.inl ⟨by kernel_rfl, ?_⟩) (by assumption) ?_
     rotate_left 1
     ·((intro w hSw; (try dsimp only at hSw); go_simp) <;> (try with_reducible rfl))
     (try simp only [Act.put, List.setIfInBounds_toArray, List.set_cons_zero, List.set_cons_succ])
     refine wpAnyH_take (i := 2) (oi := ⟨some 26, _, _, _, _, _⟩) (v := ?_) rfl (by kernel_rfl) (by kernel_rfl) (by kernel_rfl) (fun _ _ _ h => h) (Or.inl ⟨by kernel_rfl, ?_⟩) (by assumption) ?_
     rotate_left 1
     ·((intro w hSw; (try dsimp only at hSw); go_simp) <;> (try with_reducible rfl))
     (try simp only [Act.put, List.setIfInBounds_toArray, List.set_cons_zero, List.set_cons_succ])
     refine wpAnyH_take (i := 3) (oi := ⟨some 27, _, _, _, _, _⟩) (v := ?_) rfl (by kernel_rfl) (by kernel_rfl) (by kernel_rfl) (fun _ _ _ h => h) (Or.inl ⟨by kernel_rfl, ?_⟩) (by assumption) ?_
     rotate_left 1
     ·((intro w hSw; (try dsimp only at hSw); go_simp) <;> (try with_reducible rfl))
     (try simp only [Act.put, List.setIfInBounds_toArray, List.set_cons_zero, List.set_cons_succ])
     refine wpAnyH_take (i := 4) (oi := ⟨some 28, _, _, _, _, _⟩) (v := ?_) rfl (by kernel_rfl) (by kernel_rfl) (by kernel_rfl) (fun _ _ _ h => h) (Or.inl ⟨by kernel_rfl, ?_⟩) (by assumption) ?_
     rotate_left 1
     ·((intro w hSw; (try dsimp only at hSw); go_simp) <;> (try with_reducible rfl))
     (try simp only [Act.put, List.setIfInBounds_toArray, List.set_cons_zero, List.set_cons_succ])
     clear d0 d1 d2 d3 c0 c1 c2 c3
     have O0 := Lib.hid (show KS.Own wr.drew w2.heap.size u5 L from HO.out.drew)
     have F0 := Lib.hid (show Below w2.heap.size w2 wr.drew from HB.out.drew)
     have C0 := Lib.hid (show wr.drew.cell? ⟨b, off + k * 4, none⟩ = some (.int .i64 pa) ∧ wr.drew.cell? ⟨b, off + k * 4 + 1, none⟩ = some (.int .i64 pb) ∧ wr.drew.cell? ⟨b, off + k * 4 + 2, none⟩ = some (.int .i64 pc) ∧ wr.drew.cell? ⟨b, off + k * 4 + 3, none⟩ = some (.int .i64 pd) from CK.out)
     generalize wr.drew = v0 at *
     refine wpAnyH_ready (rs := [5, 9]) (by kernel_rfl) (by simp) ?_
     refine AllReadyH.cons (o := ⟨some 29, _, _, _, _, _⟩) rfl (fun K hK => ?_) ?_
     ·go_simp
      refine (HKP.out v0 F0.out).mono ?_
      rintro e v1 ⟨rfl, hb⟩
      have O1 := Lib.hid (O0.out.below hb)
      have F1 := Lib.hid (Below.call F0.out hb)
      have C1 := Lib.hid (And.intro (keep_cell hb C0.out.1) (And.intro (keep_cell hb C0.out.2.1) (And.intro (keep_cell hb C0.out.2.2.1) (keep_cell hb C0.out.2.2.2))))
      clear hb O0 F0 C0
      go_wp2_with fail
      refine hK.out _ _ ?_ (fun hHeld => ?_)
      ·have hx := HF.out _ (Below.call HB2.out F1.out)
       exact ⟨hx.1, hx.2.1, hx.2.2.1, hx.2.2.2, C1.out.1, C1.out.2.1, C1.out.2.2.1, C1.out.2.2.2⟩
      clear hK K
      (try simp only [Act.put, List.setIfInBounds_toArray, List.set_cons_zero, List.set_cons_succ])
      refine wpAnyH_take (i := 6) (oi := ⟨some 23, _, _, _, _, _⟩) (v := ?_) rfl (by kernel_rfl) (by kernel_rfl) (by kernel_rfl) (fun _ _ _ h => h) (Or.inl ⟨by kernel_rfl, ?_⟩) (by assumption) ?_
      rotate_left 1
      ·((intro w hSw; (try dsimp only at hSw); go_simp) <;> (try with_reducible rfl))
      (try simp only [Act.put, List.setIfInBounds_toArray, List.set_cons_zero, List.set_cons_succ])
      refine wpAnyH_take (i := 7) (oi := ⟨some 30, _, _, _, _, _⟩) (v := ?_) rfl (by kernel_rfl) (by kernel_rfl) (by kernel_rfl) (fun _ _ _ h => h) (Or.inl ⟨by kernel_rfl, ?_⟩) (by assumption) ?_
      rotate_left 1
      ·((intro w hSw; (try dsimp only at hSw); go_simp) <;> (try with_reducible rfl))
      (try simp only [Act.put, List.setIfInBounds_toArray, List.set_cons_zero, List.set_cons_succ])
      refine wpAnyH_take (i := 8) (oi := ⟨some 31, _, _, _, _, _⟩) (v := ?_) rfl (by kernel_rfl) (by kernel_rfl) (by kernel_rfl) (fun _ _ _ h => h) (Or.inl ⟨by kernel_rfl, ?_⟩) (by assumption) ?_
      rotate_left 1
      ·((intro w hSw; (try dsimp only at hSw); go_simp) <;> (try with_reducible rfl))
      (try simp only [Act.put, List.setIfInBounds_toArray, List.set_cons_zero, List.set_cons_succ])
      refine wpAnyH_ready (rs := [9]) (by kernel_rfl) (by simp) ?_
      refine AllReadyH.cons (o := ⟨some 8, _, _, _, _, _⟩) rfl (fun K hK => ?_) AllReadyH.nil
      go_simp
      have hb := Below.al (Below.refl _ v1) (.cells #[.int .i64 0, .int .i64 0] 134)
      have O2 := Lib.hid (O1.out.below hb)
      have F2 := Lib.hid (Below.call F1.out hb)
      have C2 := Lib.hid (And.intro (keep_cell hb C1.out.1) (And.intro (keep_cell hb C1.out.2.1) (And.intro (keep_cell hb C1.out.2.2.1) (keep_cell hb C1.out.2.2.2))))
      have D2 := Lib.hid (Cell2.new v1 0 0)
      have NE := Lib.hid (show w2.heap.size ≤ v1.heap.size from F1.out.size)
      have NO := Lib.hid (show u5.ownBlock = none ∨ u5.ownBlock ≠ some v1.heap.size from .inr (fun e => Nat.lt_irrefl _ (O1.out.lt _ e).2))
      clear hb O1 F1 C1
      generalize v1.alloc (.cells #[.int .i64 0, .int .i64 0] 134) = v2 at *
      generalize v1.heap.size = D at *
      refine hK.out _ _ ?_ (fun hHeld => ?_)
      ·have hx := HF.out _ (Below.call HB2.out F2.out)
       exact ⟨hx.1, hx.2.1, hx.2.2.1, hx.2.2.2, C2.out.1, C2.out.2.1, C2.out.2.2.1, C2.out.2.2.2⟩
      clear hK K
      (try simp only [Act.put, List.setIfInBounds_toArray, List.set_cons_zero, List.set_cons_succ])
      refine wpAnyH_ready (rs := [10]) (by kernel_rfl) (by simp) ?_
      refine AllReadyH.cons (o := ⟨none, _, _, _, _, _⟩) rfl (fun K hK => ?_) AllReadyH.nil
      obtain ⟨s0, s1, y0, y1, _⟩ := D2.out
      go_simp
      clear s0 s1 y0 y1
      have hgs := gb_trans (gb_set v2 D 0 (.int .i64 t1)) (gb_set (v2.setCell ⟨D, 0, none⟩ (.int .i64 t1)) D 1 (.int .i64 t2))
      have OX := Lib.hid (show KS.Own ((v2.setCell ⟨D, 0, none⟩ (.int .i64 t1)).setCell ⟨D, 1, none⟩ (.int .i64 t2)) w2.heap.size u5 L from O2.out.kept hgs NO.out)
      have FX := Lib.hid (show Below w2.heap.size w2 ((v2.setCell ⟨D, 0, none⟩ (.int .i64 t1)).setCell ⟨D, 1, none⟩ (.int .i64 t2)) from Below.st (Below.st F2.out NE.out) NE.out)
      have DX := Lib.hid (show Cell2 ((v2.setCell ⟨D, 0, none⟩ (.int .i64 t1)).setCell ⟨D, 1, none⟩ (.int .i64 t2)) D t1 t2 from D2.out.set t1 t2)
      clear hgs
      have hbn : b ≠ D := by have := NE.out; omega
      have CX := Lib.hid (show ((v2.setCell ⟨D, 0, none⟩ (.int .i64 t1)).setCell ⟨D, 1, none⟩ (.int .i64 t2)).cell? ⟨b, off + k * 4, none⟩ = some (.int .i64 pa) ∧ ((v2.setCell ⟨D, 0, none⟩ (.int .i64 t1)).setCell ⟨D, 1, none⟩ (.int .i64 t2)).cell? ⟨b, off + k * 4 + 1, none⟩ = some (.int .i64 pb) ∧ ((v2.setCell ⟨D, 0, none⟩ (.int .i64 t1)).setCell ⟨D, 1, none⟩ (.int .i64 t2)).cell? ⟨b, off + k * 4 + 2, none⟩ = some (.int .i64 pc) ∧ ((v2.setCell ⟨D, 0, none⟩ (.int .i64 t1)).setCell ⟨D, 1, none⟩ (.int .i64 t2)).cell? ⟨b, off + k * 4 + 3, none⟩ = some (.int .i64 pd) from ⟨st_other (st_other C2.out.1 (ad_nf (.inl (Ne.symm hbn)))) (ad_nf (.inl (Ne.symm hbn))), st_other (st_other C2.out.2.1 (ad_nf (.inl (Ne.symm hbn)))) (ad_nf (.inl (Ne.symm hbn))), st_other (st_other C2.out.2.2.1 (ad_nf (.inl (Ne.symm hbn)))) (ad_nf (.inl (Ne.symm hbn))), st_other (st_other C2.out.2.2.2 (ad_nf (.inl (Ne.symm hbn)))) (ad_nf (.inl (Ne.symm hbn)))⟩)
      refine hK.out _ _ ?_ (fun hHeld => ?_)
      ·have hx := HF.out _ (Below.call HB2.out FX.out)
       exact ⟨hx.1, hx.2.1, hx.2.2.1, hx.2.2.2, CX.out.1, CX.out.2.1, CX.out.2.2.1, CX.out.2.2.2⟩
      clear hK K
      (try simp only [Act.put, List.setIfInBounds_toArray, List.set_cons_zero, List.set_cons_succ])
      refine wpAnyH_take (i := 11) (oi := ⟨some 9, _, _, _, _, _⟩) (v := ?_) rfl (by kernel_rfl) (by kernel_rfl) (by kernel_rfl) (fun _ _ _ h => h) (Or.inl ⟨by kernel_rfl, ?_⟩) (by assumption) ?_
      rotate_left 1
      ·((intro w hSw; (try dsimp only at hSw); go_simp) <;> (try with_reducible rfl))
      (try simp only [Act.put, List.setIfInBounds_toArray, List.set_cons_zero, List.set_cons_succ])
      refine wpAnyH_done (by kernel_rfl) ?_ _
      clear hHeld O2 F2 C2 D2
      generalize ((v2.setCell ⟨D, 0, none⟩ (.int .i64 t1)).setCell ⟨D, 1, none⟩ (.int .i64 t2)) = vx at *
      go_wp2
      go_ret2
      have hE := HEE.out.trans HER.out
      have hT := HTT.out
      rw [if_neg (by rw [hE]; exact HNE.out)] at hT
      subst hE hT
      exact ⟨_, rfl, Lk.Own.nil _ _, Below.call HB0.out (Below.call HB2.out FX.out)⟩
     refine AllReadyH.cons (o := ⟨some 8, _, _, _, _, _⟩) rfl (fun K hK => ?_) ?_
     ·go_simp
      have hb := Below.al (Below.refl _ v0) (.cells #[.int .i64 0, .int .i64 0] 134)
      have O3 := Lib.hid (O0.out.below hb)
      have F3 := Lib.hid (Below.call F0.out hb)
      have C3 := Lib.hid (And.intro (keep_cell hb C0.out.1) (And.intro (keep_cell hb C0.out.2.1) (And.intro (keep_cell hb C0.out.2.2.1) (keep_cell hb C0.out.2.2.2))))
      have D3 := Lib.hid (Cell2.new v0 0 0)
      have NE := Lib.hid (show w2.heap.size ≤ v0.heap.size from F0.out.size)
      have NO := Lib.hid (show u5.ownBlock = none ∨ u5.ownBlock ≠ some v0.heap.size from .inr (fun e => Nat.lt_irrefl _ (O0.out.lt _ e).2))
      clear hb O0 F0 C0
      generalize v0.alloc (.cells #[.int .i64 0, .int .i64 0] 134) = v3 at *
      generalize v0.heap.size = D at *
      refine hK.out _ _ ?_ (fun hHeld => ?_)
      ·have hx := HF.out _ (Below.call HB2.out F3.out)
       exact ⟨hx.1, hx.2.1, hx.2.2.1, hx.2.2.2, C3.out.1, C3.out.2.1, C3.out.2.2.1, C3.out.2.2.2⟩
      clear hK K
      (try simp only [Act.put, List.setIfInBounds_toArray, List.set_cons_zero, List.set_cons_succ])
      refine wpAnyH_ready (rs := [5]) (by kernel_rfl) (by simp) ?_
      refine AllReadyH.cons (o := ⟨some 29, _, _, _, _, _⟩) rfl (fun K hK => ?_) AllReadyH.nil
      go_simp
      refine (HKP.out v3 F3.out).mono ?_
      rintro e v4 ⟨rfl, hb⟩
      have O4 := Lib.hid (O3.out.below hb)
      have F4 := Lib.hid (Below.call F3.out hb)
      have C4 := Lib.hid (And.intro (keep_cell hb C3.out.1) (And.intro (keep_cell hb C3.out.2.1) (And.intro (keep_cell hb C3.out.2.2.1) (keep_cell hb C3.out.2.2.2))))
      have D4 := Lib.hid (D3.out.below hb)
      clear hb O3 F3 C3 D3
      go_wp2_with fail
      refine hK.out _ _ ?_ (fun hHeld => ?_)
      ·have hx := HF.out _ (Below.call HB2.out F4.out)
       exact ⟨hx.1, hx.2.1, hx.2.2.1, hx.2.2.2, C4.out.1, C4.out.2.1, C4.out.2.2.1, C4.out.2.2.2⟩
      clear hK K
      (try simp only [Act.put, List.setIfInBounds_toArray, List.set_cons_zero, List.set_cons_succ])
      refine wpAnyH_take (i := 6) (oi := ⟨some 23, _, _, _, _, _⟩) (v := ?_) rfl (by kernel_rfl) (by kernel_rfl) (by kernel_rfl) (fun _ _ _ h => h) (Or.inl ⟨by kernel_rfl, ?_⟩) (by assumption) ?_
      rotate_left 1
      ·((intro w hSw; (try dsimp only at hSw); go_simp) <;> (try with_reducible rfl))
      (try simp only [Act.put, List.setIfInBounds_toArray, List.set_cons_zero, List.set_cons_succ])
      refine wpAnyH_take (i := 7) (oi := ⟨some 30, _, _, _, _, _⟩) (v := ?_) rfl (by kernel_rfl) (by kernel_rfl) (by kernel_rfl) (fun _ _ _ h => h) (Or.inl ⟨by kernel_rfl, ?_⟩) (by assumption) ?_
      rotate_left 1
      ·((intro w hSw; (try dsimp only at hSw); go_simp) <;> (try with_reducible rfl))
      (try simp only [Act.put, List.setIfInBounds_toArray, List.set_cons_zero, List.set_cons_succ])
      refine wpAnyH_take (i := 8) (oi := ⟨some 31, _, _, _, _, _⟩) (v := ?_) rfl (by kernel_rfl) (by kernel_rfl) (by kernel_rfl) (fun _ _ _ h => h) (Or.inl ⟨by kernel_rfl, ?_⟩) (by assumption) ?_
      rotate_left 1
      ·((intro w hSw; (try dsimp only at hSw); go_simp) <;> (try with_reducible rfl))
      (try simp only [Act.put, List.setIfInBounds_toArray, List.set_cons_zero, List.set_cons_succ])
      refine wpAnyH_ready (rs := [10]) (by kernel_rfl) (by simp) ?_
      refine AllReadyH.cons (o := ⟨none, _, _, _, _, _⟩) rfl (fun K hK => ?_) AllReadyH.nil
      obtain ⟨s0, s1, y0, y1, _⟩ := D4.out
      go_simp
      clear s0 s1 y0 y1
      have hgs := gb_trans (gb_set v4 D 0 (.int .i64 t1)) (gb_set (v4.setCell ⟨D, 0, none⟩ (.int .i64 t1)) D 1 (.int .i64 t2))
      have OX := Lib.hid (show KS.Own ((v4.setCell ⟨D, 0, none⟩ (.int .i64 t1)).setCell ⟨D, 1, none⟩ (.int .i64 t2)) w2.heap.size u5 L from O4.out.kept hgs NO.out)
      have FX := Lib.hid (show Below w2.heap.size w2 ((v4.setCell ⟨D, 0, none⟩ (.int .i64 t1)).setCell ⟨D, 1, none⟩ (.int .i64 t2)) from Below.st (Below.st F4.out NE.out) NE.out)
      have DX := Lib.hid (show Cell2 ((v4.setCell ⟨D, 0, none⟩ (.int .i64 t1)).setCell ⟨D, 1, none⟩ (.int .i64 t2)) D t1 t2 from D4.out.set t1 t2)
      clear hgs
      have hbn : b ≠ D := by have := NE.out; omega
      have CX := Lib.hid (show ((v4.setCell ⟨D, 0, none⟩ (.int .i64 t1)).setCell ⟨D, 1, none⟩ (.int .i64 t2)).cell? ⟨b, off + k * 4, none⟩ = some (.int .i64 pa) ∧ ((v4.setCell ⟨D, 0, none⟩ (.int .i64 t1)).setCell ⟨D, 1, none⟩ (.int .i64 t2)).cell? ⟨b, off + k * 4 + 1, none⟩ = some (.int .i64 pb) ∧ ((v4.setCell ⟨D, 0, none⟩ (.int .i64 t1)).setCell ⟨D, 1, none⟩ (.int .i64 t2)).cell? ⟨b, off + k * 4 + 2, none⟩ = some (.int .i64 pc) ∧ ((v4.setCell ⟨D, 0, none⟩ (.int .i64 t1)).setCell ⟨D, 1, none⟩ (.int .i64 t2)).cell? ⟨b, off + k * 4 + 3, none⟩ = some (.int .i64 pd) from ⟨st_other (st_other C4.out.1 (ad_nf (.inl (Ne.symm hbn)))) (ad_nf (.inl (Ne.symm hbn))), st_other (st_other C4.out.2.1 (ad_nf (.inl (Ne.symm hbn)))) (ad_nf (.inl (Ne.symm hbn))), st_other (st_other C4.out.2.2.1 (ad_nf (.inl (Ne.symm hbn)))) (ad_nf (.inl (Ne.symm hbn))), st_other (st_other C4.out.2.2.2 (ad_nf (.inl (Ne.symm hbn)))) (ad_nf (.inl (Ne.symm hbn)))⟩)
      refine hK.out _ _ ?_ (fun hHeld => ?_)
      ·have hx := HF.out _ (Below.call HB2.out FX.out)
       exact ⟨hx.1, hx.2.1, hx.2.2.1, hx.2.2.2, CX.out.1, CX.out.2.1, CX.out.2.2.1, CX.out.2.2.2⟩
      clear hK K
      (try simp only [Act.put, List.setIfInBounds_toArray, List.set_cons_zero, List.set_cons_succ])
      refine wpAnyH_take (i := 11) (oi := ⟨some 9, _, _, _, _, _⟩) (v := ?_) rfl (by kernel_rfl) (by kernel_rfl) (by kernel_rfl) (fun _ _ _ h => h) (Or.inl ⟨by kernel_rfl, ?_⟩) (by assumption) ?_
      rotate_left 1
      ·((intro w hSw; (try dsimp only at hSw); go_simp) <;> (try with_reducible rfl))
      (try simp only [Act.put, List.setIfInBounds_toArray, List.set_cons_zero, List.set_cons_succ])
      refine wpAnyH_done (by kernel_rfl) ?_ _
      clear hHeld O4 F4 C4 D4
      generalize ((v4.setCell ⟨D, 0, none⟩ (.int .i64 t1)).setCell ⟨D, 1, none⟩ (.int .i64 t2)) = vx at *
      go_wp2
      go_ret2
      have hE := HEE.out.trans HER.out
      have hT := HTT.out
      rw [if_neg (by rw [hE]; exact HNE.out)] at hT
      subst hE hT
      exact ⟨_, rfl, Lk.Own.nil _ _, Below.call HB0.out (Below.call HB2.out FX.out)⟩
     exact AllReadyH.nil
   ·obtain rfl : k = PS.length := by omega
    have e : TT.take PS.length = TT := List.take_of_length_le (by rw [HTL.out]; exact Nat.le_refl _)
    rw [e] at HE0 HO
    clear e
    go_wp2
    go_ret2
    have hE := HEE.out.trans HE0.out
    have hT := HTT.out
    rw [if_pos hE] at hT
    subst hE hT
    exact ⟨_, rfl, HO.out.mono (by rw [← hQ]; exact HQS.out), Below.call HB0.out (Below.call HB2.out HB.out)⟩
 ·have T : zchk d = dchk d := by unfold zchk; rw [if_neg hz]
  have T2 : tabV d = [] := by unfold tabV; rw [if_neg (by rw [T]; exact hz)]
  rw [T, T2]
  have hz' : (dchk d != 0) = true := by rw [bne_iff_ne]; exact hz
  clear T T2 hz hd
  generalize dchk d = c at *
  go_enter Tryz.func148, Tryz.ntmps148
  go_wp2_with fail
  rw [← hw0]
  clear hw0
  refine (HC.out _ HD0.out).mono ?_
  rintro e w1 ⟨rfl, hb1⟩
  have HB1 := Lib.hid hb1
  clear hb1
  go_wp2
  go_ret2
  exact ⟨_, rfl, Lk.Own.nil _ _, Below.call HB0.out HB1.out⟩
end Go.Proofs.YtmecohdedghiaaaGreatDoor
namespace Go.Proofs.YtmecohdedghiaaaGreatDoor.Sp
open Go.RowKit
/-- Two whole numbers as a struct's value. -/
abbrev sv (x y : Int) : Value := .agg #[.int .i64 x, .int .i64 y]
/-- What two spans have in common. -/
def cutV (a b : Int × Int) : Int × Int := if max a.1 b.1 ≤ min a.2 b.2 then (max a.1 b.1, min a.2 b.2) else (0, -1)
def meetsB (a b : Int × Int) : Bool := decide (max a.1 b.1 ≤ min a.2 b.2)
def hullV (a b : Int × Int) : Int × Int := if a.2 < a.1 then (if b.2 < b.1 then (0, -1) else b) else if b.2 < b.1 then a else (min a.1 b.1, max a.2 b.2)
def hasB (a : Int × Int) (n : Int) : Bool := decide (a.1 ≤ n ∧ n ≤ a.2)
def lenV (a : Int × Int) : Int := if a.2 < a.1 then 0 else if a.2 - a.1 < 9223372036854775807 then a.2 - a.1 + 1 else 9223372036854775807
set_option maxHeartbeats 400000 in
theorem empty_any (a b : Int) (w : World) : Calls Tryz.prog 208 #[.agg #[.int .i64 a, .int .i64 b]] w fun e w' => e = .returned (.bool (decide (b < a))) ∧ Below w.heap.size w w' := by
 go_enter Tryz.func208, Tryz.ntmps208
 go_wp2
 go_ret
 exact ⟨ret_b rfl, (Below.refl _ _).alloc (Nat.le_refl _) _⟩
set_option maxHeartbeats 400000 in
theorem none_any (w : World) : Calls Tryz.prog 209 #[] w fun e w' => e = .returned (.agg #[.int .i64 0, .int .i64 (-1)]) ∧ Below w.heap.size w w' := by
 go_enter Tryz.func209, Tryz.ntmps209
 go_wp2
 exact bodyPost_ret (v := .agg #[.int .i64 0, .int .i64 (-1)]) (by simp [results, Tryz.results209, go_sem]) rfl ⟨rfl, (Below.refl _ _).alloc (Nat.le_refl _) _⟩
/-- Behind a call that makes memory all that was there is as it was. -/
theorem bcell {W w1 : World} (hb : Below W.heap.size W w1) : (∀ b o, b < W.heap.size → w1.cell? ⟨b, o, none⟩ = W.cell? ⟨b, o, none⟩) ∧ (∀ b o, b < W.heap.size → w1.frozen? ⟨b, o, none⟩ = W.frozen? ⟨b, o, none⟩) :=
 ⟨fun b o h => hb.cell (p := ⟨b, o, none⟩) h, fun b o h => hb.frozen (p := ⟨b, o, none⟩) h⟩
theorem Below.al {w w' : World} (h : Below w.heap.size w w') (o : Obj) : Below w.heap.size w (w'.alloc o) := h.alloc h.size o
theorem Below.call {w w' w'' : World} (h : Below w.heap.size w w') (k : Below w'.heap.size w' w'') : Below w.heap.size w w'' := h.trans (k.mono h.size)
theorem Below.st {w w' : World} {p : Addr} {v : Value} (h : Below w.heap.size w w') (hp : w.heap.size ≤ p.block) : Below w.heap.size w (w'.setCell p v) := h.setCell hp v
theorem hullV_nn {a b c d : Int} (h : b < a) (k : d < c) : hullV (a, b) (c, d) = (0, -1) := by simp [hullV, h, k]
theorem hullV_ny {a b c d : Int} (h : b < a) (k : ¬ d < c) : hullV (a, b) (c, d) = (c, d) := by simp [hullV, h, k]
theorem hullV_yn {a b c d : Int} (h : ¬ b < a) (k : d < c) : hullV (a, b) (c, d) = (a, b) := by simp [hullV, h, k]
theorem hullV_yy {a b c d : Int} (h : ¬ b < a) (k : ¬ d < c) : hullV (a, b) (c, d) = (min a c, max b d) := by simp [hullV, h, k]
set_option maxHeartbeats 1000000 in
theorem hull_nn (a b c d : Int) (h : b < a) (k : d < c) (w : World) : Calls Tryz.prog 147 #[.agg #[.int .i64 a, .int .i64 b], .agg #[.int .i64 c, .int .i64 d]] w fun e w' => e = .returned (.agg #[.int .i64 0, .int .i64 (-1)]) ∧ Below w.heap.size w w' := by
 go_enter Tryz.func147, Tryz.ntmps147
 go_wp2_with fail
 refine (empty_any _ _ _).mono ?_
 rintro e w1 ⟨rfl, hb1⟩
 obtain ⟨hc1, hf1⟩ := bcell hb1
 have HB1 := Lib.hid hb1
 have hz1_0 : w.heap.size < w1.heap.size := by (have := hb1.size; (try simp at this) <;> omega)
 have hz1_1 : w.heap.size + 1 < w1.heap.size := by (have := hb1.size; (try simp at this) <;> omega)
 have hz1_2 : w.heap.size + 1 + 1 < w1.heap.size := by (have := hb1.size; (try simp at this) <;> omega)
 clear hb1
 go_wp2_with fail
 refine (empty_any _ _ _).mono ?_
 rintro e w2 ⟨rfl, hb2⟩
 obtain ⟨hc2, hf2⟩ := bcell hb2
 have HB2 := Lib.hid hb2
 have hz2_0 : w.heap.size < w2.heap.size := by (have := hb2.size; (try simp at this) <;> omega)
 have hz2_1 : w.heap.size + 1 < w2.heap.size := by (have := hb2.size; (try simp at this) <;> omega)
 have hz2_2 : w.heap.size + 1 + 1 < w2.heap.size := by (have := hb2.size; (try simp at this) <;> omega)
 clear hb2
 go_wp2_with fail
 refine (none_any _).mono ?_
 rintro e w3 ⟨rfl, hb3⟩
 obtain ⟨hc3, hf3⟩ := bcell hb3
 have HB3 := Lib.hid hb3
 have hz3_0 : w.heap.size < w3.heap.size := by (have := hb3.size; (try simp at this) <;> omega)
 have hz3_1 : w.heap.size + 1 < w3.heap.size := by (have := hb3.size; (try simp at this) <;> omega)
 have hz3_2 : w.heap.size + 1 + 1 < w3.heap.size := by (have := hb3.size; (try simp at this) <;> omega)
 clear hb3
 go_wp2
 refine bodyPost_ret (v := .agg #[.int .i64 0, .int .i64 (-1)]) (by simp [results, Tryz.results147, go_sem, hc1, hc2, hc3, hz1_2, hz2_2]) rfl ⟨rfl, ?_⟩
 (repeat (first | exact Below.refl _ _ | (with_reducible refine Below.st ?_ (by simp <;> omega)) | (with_reducible refine Below.al ?_ _) | (with_reducible refine Below.call ?_ HB1.out) | (with_reducible refine Below.call ?_ HB2.out) | (with_reducible refine Below.call ?_ HB3.out) | (with_reducible refine Below.call ?_ HB4.out) ))
set_option maxHeartbeats 1000000 in
theorem hull_ny (a b c d : Int) (h : b < a) (k : ¬ d < c) (w : World) : Calls Tryz.prog 147 #[.agg #[.int .i64 a, .int .i64 b], .agg #[.int .i64 c, .int .i64 d]] w fun e w' => e = .returned (.agg #[.int .i64 c, .int .i64 d]) ∧ Below w.heap.size w w' := by
 go_enter Tryz.func147, Tryz.ntmps147
 go_wp2_with fail
 refine (empty_any _ _ _).mono ?_
 rintro e w1 ⟨rfl, hb1⟩
 obtain ⟨hc1, hf1⟩ := bcell hb1
 have HB1 := Lib.hid hb1
 have hz1_0 : w.heap.size < w1.heap.size := by (have := hb1.size; (try simp at this) <;> omega)
 have hz1_1 : w.heap.size + 1 < w1.heap.size := by (have := hb1.size; (try simp at this) <;> omega)
 have hz1_2 : w.heap.size + 1 + 1 < w1.heap.size := by (have := hb1.size; (try simp at this) <;> omega)
 clear hb1
 go_wp2_with fail
 refine (empty_any _ _ _).mono ?_
 rintro e w2 ⟨rfl, hb2⟩
 obtain ⟨hc2, hf2⟩ := bcell hb2
 have HB2 := Lib.hid hb2
 have hz2_0 : w.heap.size < w2.heap.size := by (have := hb2.size; (try simp at this) <;> omega)
 have hz2_1 : w.heap.size + 1 < w2.heap.size := by (have := hb2.size; (try simp at this) <;> omega)
 have hz2_2 : w.heap.size + 1 + 1 < w2.heap.size := by (have := hb2.size; (try simp at this) <;> omega)
 clear hb2
 go_wp2_with fail
 refine (empty_any _ _ _).mono ?_
 rintro e w3 ⟨rfl, hb3⟩
 obtain ⟨hc3, hf3⟩ := bcell hb3
 have HB3 := Lib.hid hb3
 have hz3_0 : w.heap.size < w3.heap.size := by (have := hb3.size; (try simp at this) <;> omega)
 have hz3_1 : w.heap.size + 1 < w3.heap.size := by (have := hb3.size; (try simp at this) <;> omega)
 have hz3_2 : w.heap.size + 1 + 1 < w3.heap.size := by (have := hb3.size; (try simp at this) <;> omega)
 clear hb3
 go_wp2
 refine bodyPost_ret (v := .agg #[.int .i64 c, .int .i64 d]) (by simp [results, Tryz.results147, go_sem, hc1, hc2, hc3, hz1_2, hz2_2]) rfl ⟨rfl, ?_⟩
 (repeat (first | exact Below.refl _ _ | (with_reducible refine Below.st ?_ (by simp <;> omega)) | (with_reducible refine Below.al ?_ _) | (with_reducible refine Below.call ?_ HB1.out) | (with_reducible refine Below.call ?_ HB2.out) | (with_reducible refine Below.call ?_ HB3.out) | (with_reducible refine Below.call ?_ HB4.out) ))
set_option maxHeartbeats 1000000 in
theorem hull_yn (a b c d : Int) (h : ¬ b < a) (k : d < c) (w : World) : Calls Tryz.prog 147 #[.agg #[.int .i64 a, .int .i64 b], .agg #[.int .i64 c, .int .i64 d]] w fun e w' => e = .returned (.agg #[.int .i64 a, .int .i64 b]) ∧ Below w.heap.size w w' := by
 go_enter Tryz.func147, Tryz.ntmps147
 go_wp2_with fail
 refine (empty_any _ _ _).mono ?_
 rintro e w1 ⟨rfl, hb1⟩
 obtain ⟨hc1, hf1⟩ := bcell hb1
 have HB1 := Lib.hid hb1
 have hz1_0 : w.heap.size < w1.heap.size := by (have := hb1.size; (try simp at this) <;> omega)
 have hz1_1 : w.heap.size + 1 < w1.heap.size := by (have := hb1.size; (try simp at this) <;> omega)
 have hz1_2 : w.heap.size + 1 + 1 < w1.heap.size := by (have := hb1.size; (try simp at this) <;> omega)
 clear hb1
 go_wp2_with fail
 refine (empty_any _ _ _).mono ?_
 rintro e w2 ⟨rfl, hb2⟩
 obtain ⟨hc2, hf2⟩ := bcell hb2
 have HB2 := Lib.hid hb2
 have hz2_0 : w.heap.size < w2.heap.size := by (have := hb2.size; (try simp at this) <;> omega)
 have hz2_1 : w.heap.size + 1 < w2.heap.size := by (have := hb2.size; (try simp at this) <;> omega)
 have hz2_2 : w.heap.size + 1 + 1 < w2.heap.size := by (have := hb2.size; (try simp at this) <;> omega)
 clear hb2
 go_wp2_with fail
 refine (empty_any _ _ _).mono ?_
 rintro e w3 ⟨rfl, hb3⟩
 obtain ⟨hc3, hf3⟩ := bcell hb3
 have HB3 := Lib.hid hb3
 have hz3_0 : w.heap.size < w3.heap.size := by (have := hb3.size; (try simp at this) <;> omega)
 have hz3_1 : w.heap.size + 1 < w3.heap.size := by (have := hb3.size; (try simp at this) <;> omega)
 have hz3_2 : w.heap.size + 1 + 1 < w3.heap.size := by (have := hb3.size; (try simp at this) <;> omega)
 clear hb3
 go_wp2
 refine bodyPost_ret (v := .agg #[.int .i64 a, .int .i64 b]) (by simp [results, Tryz.results147, go_sem, hc1, hc2, hc3, hz1_2, hz2_2]) rfl ⟨rfl, ?_⟩
 (repeat (first | exact Below.refl _ _ | (with_reducible refine Below.st ?_ (by simp <;> omega)) | (with_reducible refine Below.al ?_ _) | (with_reducible refine Below.call ?_ HB1.out) | (with_reducible refine Below.call ?_ HB2.out) | (with_reducible refine Below.call ?_ HB3.out) | (with_reducible refine Below.call ?_ HB4.out) ))
set_option maxHeartbeats 1000000 in
theorem hull_yy (a b c d : Int) (h : ¬ b < a) (k : ¬ d < c) (w : World) : Calls Tryz.prog 147 #[.agg #[.int .i64 a, .int .i64 b], .agg #[.int .i64 c, .int .i64 d]] w fun e w' => e = .returned (.agg #[.int .i64 (min a c), .int .i64 (max b d)]) ∧ Below w.heap.size w w' := by
 by_cases ha : a ≤ c <;> by_cases hd : d ≤ b
 all_goals
  go_enter Tryz.func147, Tryz.ntmps147
  go_wp2_with fail
  refine (empty_any _ _ _).mono ?_
  rintro e w1 ⟨rfl, hb1⟩
  obtain ⟨hc1, hf1⟩ := bcell hb1
  have HB1 := Lib.hid hb1
  have hz1_0 : w.heap.size < w1.heap.size := by (have := hb1.size; (try simp at this) <;> omega)
  have hz1_1 : w.heap.size + 1 < w1.heap.size := by (have := hb1.size; (try simp at this) <;> omega)
  have hz1_2 : w.heap.size + 1 + 1 < w1.heap.size := by (have := hb1.size; (try simp at this) <;> omega)
  clear hb1
  go_wp2_with fail
  refine (empty_any _ _ _).mono ?_
  rintro e w2 ⟨rfl, hb2⟩
  obtain ⟨hc2, hf2⟩ := bcell hb2
  have HB2 := Lib.hid hb2
  have hz2_0 : w.heap.size < w2.heap.size := by (have := hb2.size; (try simp at this) <;> omega)
  have hz2_1 : w.heap.size + 1 < w2.heap.size := by (have := hb2.size; (try simp at this) <;> omega)
  have hz2_2 : w.heap.size + 1 + 1 < w2.heap.size := by (have := hb2.size; (try simp at this) <;> omega)
  clear hb2
  go_wp2_with fail
  refine (empty_any _ _ _).mono ?_
  rintro e w3 ⟨rfl, hb3⟩
  obtain ⟨hc3, hf3⟩ := bcell hb3
  have HB3 := Lib.hid hb3
  have hz3_0 : w.heap.size < w3.heap.size := by (have := hb3.size; (try simp at this) <;> omega)
  have hz3_1 : w.heap.size + 1 < w3.heap.size := by (have := hb3.size; (try simp at this) <;> omega)
  have hz3_2 : w.heap.size + 1 + 1 < w3.heap.size := by (have := hb3.size; (try simp at this) <;> omega)
  clear hb3
  go_wp2
  refine bodyPost_ret (v := .agg #[.int .i64 (min a c), .int .i64 (max b d)]) (by simp [results, Tryz.results147, go_sem, hc1, hc2, hc3, hz1_2, hz2_2]; omega) rfl ⟨rfl, ?_⟩
  (repeat (first | exact Below.refl _ _ | (with_reducible refine Below.st ?_ (by simp <;> omega)) | (with_reducible refine Below.al ?_ _) | (with_reducible refine Below.call ?_ HB1.out) | (with_reducible refine Below.call ?_ HB2.out) | (with_reducible refine Below.call ?_ HB3.out) | (with_reducible refine Below.call ?_ HB4.out) ))
theorem hull_any (p q : Int × Int) (w : World) : Calls Tryz.prog 147 #[.agg #[.int .i64 p.1, .int .i64 p.2], .agg #[.int .i64 q.1, .int .i64 q.2]] w fun e w' => e = .returned (.agg #[.int .i64 (hullV p q).1, .int .i64 (hullV p q).2]) ∧ Below w.heap.size w w' := by
 obtain ⟨a, b⟩ := p
 obtain ⟨c, d⟩ := q
 by_cases h : b < a <;> by_cases k : d < c
 ·rw [hullV_nn h k]; exact hull_nn a b c d h k w
 ·rw [hullV_ny h k]; exact hull_ny a b c d h k w
 ·rw [hullV_yn h k]; exact hull_yn a b c d h k w
 ·rw [hullV_yy h k]; exact hull_yy a b c d h k w
end Go.Proofs.YtmecohdedghiaaaGreatDoor.Sp
namespace Go.Proofs.YtmecohdedghiaaaGreatDoor.Sp
open Go.RowKit
end Go.Proofs.YtmecohdedghiaaaGreatDoor.Sp
namespace Go.Proofs.YtmecohdedghiaaaGreatDoor
open Go.RowKit
end Go.Proofs.YtmecohdedghiaaaGreatDoor
