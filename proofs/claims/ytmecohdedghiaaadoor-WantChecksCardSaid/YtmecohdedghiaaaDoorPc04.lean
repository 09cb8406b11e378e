/- Lists of whole numbers in memory, and rising lists. -/
import Derived.Test.YtmecohdedghiaaaDoorPc03
import Derived.Test.YtmecohdedghiaaaDoorChecked
import Derived.Test.YtmecohdedghiaaaDoorPc00
import Derived.WalkKit
import Derived.WalkLawsBesides
import Derived.WalkSpells
import Derived.Outline
import Derived.KernelRfl
import Derived.Lib.Hide
import Derived.Maps.AppendAt
import Derived.Laws.OwnMore
import Derived.Deep.AppendLies
import Derived.Deep.Onto
import Derived.OwnWalk
namespace Go.Proofs.YtmecohdedghiaaaDoor
open Go.RowKit
theorem gb_set (w : World) (b i : Nat) (v : Value) : w.grownBy (w.setCell ⟨b, i, none⟩ v) (some b) :=
 ⟨rfl, rfl, rfl, by simp, fun k _ hk => heap_setCell_other w _ k v (fun e => hk (by rw [e]))⟩
/-- Two cells of an own block. -/
def Cell2 (V : World) (D : Nat) (x y : Int) : Prop :=
 V.cell? ⟨D, 0, none⟩ = some (.int .i64 x) ∧ V.cell? ⟨D, 1, none⟩ = some (.int .i64 y) ∧ V.frozen? ⟨D, 0, none⟩ = false ∧ V.frozen? ⟨D, 1, none⟩ = false ∧ D < V.heap.size
theorem Cell2.new (V : World) (x y : Int) : Cell2 (V.alloc (.cells #[.int .i64 x, .int .i64 y] 101)) V.heap.size x y := by
 refine ⟨?_, ?_, ?_, ?_, ?_⟩ <;> simp
theorem Cell2.below {V V' : World} {D : Nat} {x y : Int} (h : Cell2 V D x y) (hb : Below V.heap.size V V') : Cell2 V' D x y := by
 obtain ⟨h0, h1, z0, z1, hs⟩ := h
 refine ⟨keep_cell hb h0, keep_cell hb h1, ?_, ?_, Nat.lt_of_lt_of_le hs hb.size⟩
 ·rw [hb.frozen (p := ⟨D, 0, none⟩) hs]; exact z0
 ·rw [hb.frozen (p := ⟨D, 1, none⟩) hs]; exact z1
theorem Cell2.set {V : World} {D : Nat} {x y : Int} (h : Cell2 V D x y) (p q : Int) : Cell2 ((V.setCell ⟨D, 0, none⟩ (.int .i64 p)).setCell ⟨D, 1, none⟩ (.int .i64 q)) D p q := by
 obtain ⟨h0, h1, z0, z1, hs⟩ := h
 refine ⟨st_other (st_same h0) (ad_nf (by omega)), st_same (st_other h1 (ad_nf (by omega))), st_fz (st_fz z0), st_fz (st_fz z1), ?_⟩
 simpa using hs
theorem fst_take (l : List T3) (k : Nat) (hk : k < l.length) (h0 : fstE (l.take k) = 0) (h : (l.getD k (0, 0, 0)).2.2 = 0) : fstE (l.take (k + 1)) = 0 := by
 rw [take_snoc l k (0, 0, 0) hk, fst_append, if_pos h0, fstE, if_pos h]
 rfl
theorem fst_stop (l : List T3) (k : Nat) (hk : k < l.length) (h0 : fstE (l.take k) = 0) (e : Int) (he : e ≠ 0) (h : (l.getD k (0, 0, 0)).2.2 = e) : fstE l = e := by
 have hl : l = l.take k ++ (l.getD k (0, 0, 0) :: l.drop (k + 1)) := by rw [← drop_snoc l k (0, 0, 0) hk, List.take_append_drop]
 generalize l.getD k (0, 0, 0) = t at *
 rw [hl, fst_append, if_pos h0, fstE, if_neg (by rw [h]; exact he), h]
theorem pairs_take (l : List T3) (k : Nat) (hk : k < l.length) : pairs (l.take (k + 1)) = pairs (l.take k) ++ [(((l.getD k (0, 0, 0)).1 : Int), ((l.getD k (0, 0, 0)).2.1 : Int))] := by
 rw [take_snoc l k (0, 0, 0) hk, pairs_append]
 rfl
theorem tab_at (d : Dk) (h : dchk d = 0) (k : Nat) (hk : k < (partsK d).length) : (tabP d).getD k (0, 0, 0) = spnP d ((partsK d).getD k ⟨0, 0, 0, 0⟩) := by
 have e : partsK d = partsL d := if_pos h
 rw [e] at hk ⊢
 rw [List.getD_eq_getElem?_getD, List.getD_eq_getElem?_getD]
 unfold tabP
 rw [List.getElem?_map, List.getElem?_eq_getElem hk]
 rfl
theorem spn_good (d : Dk) {w : World} (hd : d.In w w.heap.size) (p : Q4) (hp : p ∈ partsK d) (h : (spnP d p).2.2 = 0) : (spnP d p).1 ≤ (spnP d p).2.1 ∧ (spnP d p).2.1 ≤ 23 := by
 have hz : OkD d := by
  unfold partsK at hp
  by_cases e : dchk d = 0
  ·exact dchk_ok d e
  ·rw [if_neg e] at hp; cases hp
 rcases part_lies d p hp with ⟨h3, h0⟩ | hl
 ·have hb := (parts_okP d p hp).2.2.1
  unfold spnP
  rw [if_pos h3]
  dsimp only
  omega
 ·have h3 : p.a ≠ 3 := by rcases hl with h | h <;> omega
  have e : spnP d p = covV d.bl (rkOf d p).x (rkOf d p).p (rkOf d p).r (cf p.d) := by unfold spnP; rw [if_neg h3]
  rw [e] at h ⊢
  obtain ⟨g1, g2, g3⟩ := cov_good d.bl _ _ _ _ (rkOf_ok hd p hl) h
  exact ⟨g1, by omega⟩
set_option maxRecDepth 100000 in
set_option maxHeartbeats 8000000 in
theorem rtable_any (d : Dk) (w : World) (hd : d.In w w.heap.size) : Calls Tryd.prog 45 #[d.v] w fun e w' => ∃ v, e = .returned (.tuple #[v, .int .i64 (zchk d)]) ∧ KS.Own w' w.heap.size v (tabV d) ∧ Below w.heap.size w w' := by
 have HD := Lib.hid hd
 have HC := Lib.hid (fun w h => rdcheck_any d w h)
 have HRP := Lib.hid (fun w h => rparts_any d w h)
 obtain ⟨w0, hw0⟩ : ∃ w0, w0 = w.alloc (.cells #[.slice d.bA d.bn d.bc, .slice d.pA d.pn d.pc, .slice d.rA d.rn d.rc, .int .i64 d.arms] 26) := ⟨_, rfl⟩
 have HB0 := Lib.hid (show Below w.heap.size w w0 by rw [hw0]; exact Below.al (Below.refl _ _) _)
 have HD0 := Lib.hid (HD.out.then HB0.out)
 have HF := Lib.hid (show ∀ w1, Below w0.heap.size w0 w1 → (w1.cell? ⟨w.heap.size, 0, none⟩ = some (.slice d.bA d.bn d.bc) ∧ w1.cell? ⟨w.heap.size, 1, none⟩ = some (.slice d.pA d.pn d.pc) ∧ w1.cell? ⟨w.heap.size, 2, none⟩ = some (.slice d.rA d.rn d.rc) ∧ w1.cell? ⟨w.heap.size, 3, none⟩ = some (.int .i64 d.arms)) from by
   intro w1 hb
   refine ⟨keep_cell hb ?_, keep_cell hb ?_, keep_cell hb ?_, keep_cell hb ?_⟩
   all_goals (rw [hw0]; simp))
 by_cases hz : dchk d = 0
 ·have HZ := Lib.hid (show zchk d = fstE (tabP d) by rw [fst_tab d (dchk_ok d hz)]; unfold zchk; rw [if_pos hz])
  have HTV := Lib.hid (show tabV d = if fstE (tabP d) = 0 then pairs (tabP d) else [] by rw [← HZ.out]; rfl)
  have HTA := Lib.hid (fun k hk => tab_at d hz k hk)
  have HTL := Lib.hid (show (tabP d).length = (partsK d).length by rw [tab_len0]; unfold partsK; rw [if_pos hz])
  have HPL := Lib.hid (parts_len d)
  have HP0 := Lib.hid (fun p hp => part_lies d p hp)
  have HSG := Lib.hid (fun p hp h => spn_good d HD.out p hp h)
  have HPS := Lib.hid (fun (w : World) (h : d.In w w.heap.size) p hp => rpartS_any d p w h hp)
  rw [HZ.out, HTV.out]
  obtain ⟨E, hE⟩ : ∃ E, E = fstE (tabP d) := ⟨_, rfl⟩
  obtain ⟨TV, hTV⟩ : ∃ TV, TV = if fstE (tabP d) = 0 then pairs (tabP d) else [] := ⟨_, rfl⟩
  rw [← hTV, ← hE]
  have HEE := Lib.hid (show E = fstE (tabP d) from hE)
  have HTT := Lib.hid (show TV = if E = 0 then pairs (tabP d) else [] by rw [hTV, hE])
  clear hE hTV
  rw [hz] at HC
  clear hz hd HZ HTV
  have HFT := Lib.hid (fst_take (tabP d))
  have HFS := Lib.hid (fst_stop (tabP d))
  have HPT := Lib.hid (pairs_take (tabP d))
  generalize partsK d = PS at *
  generalize tabP d = TT at *
  go_enter Tryd.func45, Tryd.ntmps45
  go_wp2_with fail
  rw [← hw0]
  clear hw0
  refine (HC.out _ HD0.out).mono ?_
  rintro e w1 ⟨rfl, hb1⟩
  obtain ⟨d0, d1, d2, d3⟩ := HF.out w1 hb1
  have HB1 := Lib.hid hb1
  clear hb1
  go_wp2_with fail
  refine (HRP.out w1 (HD0.out.then HB1.out)).mono ?_
  rintro e w2 ⟨v, rfl, hown2, hb2⟩
  have HB2 := Lib.hid (Below.call HB1.out hb2)
  have HIL := Lib.hid (hown2.isL (by have := HPL.out; omega))
  clear hb2 hown2 d0 d1 d2 d3
  obtain ⟨A, cap, rfl⟩ : ∃ A cap, v = .slice A PS.length cap := by
   obtain ⟨⟨A, cap, h, _⟩, _⟩ := HIL.out
   exact ⟨A, cap, h⟩
  go_wp2_with fail
  obtain ⟨Q, hQ⟩ : ∃ Q, Q = w2.heap.size := ⟨_, rfl⟩
  have HQS := Lib.hid (show w.heap.size ≤ Q by rw [hQ]; exact Nat.le_trans HB0.out.size HB2.out.size)
  go_loopw [5, 7] (fun u i wr => ∃ k : Nat, k ≤ PS.length ∧ i = .int .i64 k ∧ fstE (TT.take k) = 0 ∧ KS.Own wr w2.heap.size u (pairs (TT.take k)) ∧ Below w2.heap.size w2 wr) (fun _ i _ => PS.length - (intOf i).toNat)
  case atStart => exact ⟨0, Nat.zero_le _, rfl, rfl, Lk.Own.nil _ _, Below.refl _ _⟩
  case round =>
   obtain ⟨k, hk, rfl, hf, hown, hbl⟩ := hrel
   have HO := Lib.hid hown
   have HB := Lib.hid hbl
   have HE0 := Lib.hid hf
   have h8 := HPL.out
   clear hown hbl hf
   by_cases hlt : k < PS.length
   ·obtain ⟨b, off, rfl, hb, hc, hcell⟩ := q4_cells (K := KQ) rfl rfl rfl (HIL.out.below HB.out) (by omega)
    obtain ⟨c0, c1, c2, c3⟩ := hcell k hlt
    have hmem := getD_mem' PS k ⟨0, 0, 0, 0⟩ hlt
    have HP0' := Lib.hid (HP0.out _ hmem)
    have HT3 := Lib.hid (HTA.out k hlt)
    have HSG' := Lib.hid (HSG.out _ hmem)
    have hltT : k < TT.length := by rw [HTL.out]; exact hlt
    have HFT' := Lib.hid (HFT.out k hltT HE0.out)
    have HFS' := Lib.hid (HFS.out k hltT HE0.out)
    have HPT' := Lib.hid (HPT.out k hltT)
    obtain ⟨d0, d1, d2, d3⟩ := HF.out wr (Below.call HB2.out HB.out)
    obtain ⟨p, hp⟩ : ∃ p, p = PS.getD k ⟨0, 0, 0, 0⟩ := ⟨_, rfl⟩
    rw [← hp] at c0 c1 c2 c3 HP0' HT3 HSG'
    have HKP := Lib.hid (fun (V : World) (h : Below w2.heap.size w2 V) => HPS.out V (HD0.out.then (Below.call HB2.out h)) p HP0'.out)
    rw [HT3.out] at HFT' HFS' HPT'
    have hlen : (pairs (TT.take k)).length = k := by rw [pairs_len, List.length_take]; omega
    have HLen := Lib.hid hlen
    clear hcell hp hmem hltT HT3 hlen
    generalize spnP d p = t at *
    obtain ⟨t1, t2, t3⟩ := t
    unfold rchVal at HKP
    dsimp only at *
    generalize pairs (TT.take k) = L at *
    obtain ⟨pa, pb, pc, pd⟩ := p
    dsimp only at *
    have CK := Lib.hid (And.intro c0 (And.intro c1 (And.intro c2 c3)))
    have NB := Lib.hid (show b < w2.heap.size from hb)
    by_cases ht : t3 = 0
    ·subst ht
     have HG := Lib.hid (HSG'.out rfl)
     have HN1 := Lib.hid (HFT'.out rfl)
     clear HFS' HFT' HSG'
     go_wp2_with fail
     refine wp_region_held_drew (S := fun w' => w'.cell? ⟨w.heap.size, 0, none⟩ = some (.slice d.bA d.bn d.bc) ∧ w'.cell? ⟨w.heap.size, 1, none⟩ = some (.slice d.pA d.pn d.pc) ∧ w'.cell? ⟨w.heap.size, 2, none⟩ = some (.slice d.rA d.rn d.rc) ∧ w'.cell? ⟨w.heap.size, 3, none⟩ = some (.int .i64 d.arms) ∧ w'.cell? ⟨b, off + k * 4, none⟩ = some (.int .i64 pa) ∧ w'.cell? ⟨b, off + k * 4 + 1, none⟩ = some (.int .i64 pb) ∧ w'.cell? ⟨b, off + k * 4 + 2, none⟩ = some (.int .i64 pc) ∧ w'.cell? ⟨b, off + k * 4 + 3, none⟩ = some (.int .i64 pd)) (by kernel_rfl) ?_ (fun hHeld => ?_)
     ·exact ⟨d0, d1, d2, d3, c0, c1, c2, c3⟩
     refine wpAnyH_take (i := 0) (oi := ⟨some 24, _, _, _, _, _⟩) (v := ?_) rfl (by kernel_rfl) (by kernel_rfl) (by kernel_rfl) (fun _ _ _ h => h) (Or.inl ⟨by kernel_rfl, ?_⟩) (by assumption) ?_
     rotate_left 1
     ·((intro w hSw; (try dsimp only at hSw); go_simp) <;> (try with_reducible rfl))
     (try simp only [Act.put, List.setIfInBounds_toArray, List.set_cons_zero, List.set_cons_succ])
     refine wpAnyH_take (i := 1) (oi := ⟨some 25, _, _, _, _, _⟩) (v := ?_) rfl (by kernel_rfl) (by kernel_rfl) (by kernel_rfl) (fun _ _ _ h => h) (Or.inl ⟨by kernel_rfl, ?_⟩) (by assumption) ?_
     rotate_left 1
     ·((intro w hSw; (try dsimp only at hSw); go_simp) <;> (try with_reducible rfl))
     (try simp only [Act.put, List.setIfInBounds_toArray, List.set_cons_zero, List.set_cons_succ])
     refine wpAnyH_take (i := 2) (oi := ⟨some 26, _, _, _, _, _⟩) (v := ?_) rfl (by kernel_rfl) (by kernel_rfl) (by kernel_rfl) (fun _ _ _ h => h) (Or.inl ⟨by kernel_rfl, ?_⟩) (by assumption) ?_
     rotate_left 1
     ·((intro w hSw; (try dsimp only at hSw); go_simp) <;> (try with_reducible rfl))
     (try simp only [Act.put, List.setIfInBounds_toArray, List.set_cons_zero, List.set_cons_succ])
     refine wpAnyH_take (i := 3) (oi := ⟨some 27, _, _, _, _, _⟩) (v := ?_) rfl (by kernel_rfl) (by kernel_rfl) (by kernel_rfl) (fun _ _ _ h => h) (Or.inl ⟨by kernel_rfl, ?_⟩) (by assumption) ?_
     rotate_left 1
     ·((intro w hSw; (try dsimp only at hSw); go_simp) <;> (try with_reducible rfl))
     (try simp only [Act.put, List.setIfInBounds_toArray, List.set_cons_zero, List.set_cons_succ])
     refine wpAnyH_take (i := 4) (oi := ⟨some 28, _, _, _, _, _⟩) (v := ?_) rfl (by kernel_rfl) (by kernel_rfl) (by kernel_rfl) (fun _ _ _ h => h) (Or.inl ⟨by kernel_rfl, ?_⟩) (by assumption) ?_
     rotate_left 1
     ·((intro w hSw; (try dsimp only at hSw); go_simp) <;> (try with_reducible rfl))
     (try simp only [Act.put, List.setIfInBounds_toArray, List.set_cons_zero, List.set_cons_succ])
     clear d0 d1 d2 d3 c0 c1 c2 c3
     have O0 := Lib.hid (show KS.Own wr.drew w2.heap.size u5 L from HO.out.drew)
     have F0 := Lib.hid (show Below w2.heap.size w2 wr.drew from HB.out.drew)
     have C0 := Lib.hid (show wr.drew.cell? ⟨b, off + k * 4, none⟩ = some (.int .i64 pa) ∧ wr.drew.cell? ⟨b, off + k * 4 + 1, none⟩ = some (.int .i64 pb) ∧ wr.drew.cell? ⟨b, off + k * 4 + 2, none⟩ = some (.int .i64 pc) ∧ wr.drew.cell? ⟨b, off + k * 4 + 3, none⟩ = some (.int .i64 pd) from CK.out)
     generalize wr.drew = v0 at *
     refine wpAnyH_ready (rs := [5, 9]) (by kernel_rfl) (by simp) ?_
     refine AllReadyH.cons (o := ⟨some 29, _, _, _, _, _⟩) rfl (fun K hK => ?_) ?_
     ·go_simp
      refine (HKP.out v0 F0.out).mono ?_
      rintro e v1 ⟨rfl, hb⟩
      have O1 := Lib.hid (O0.out.below hb)
      have F1 := Lib.hid (Below.call F0.out hb)
      have C1 := Lib.hid (And.intro (keep_cell hb C0.out.1) (And.intro (keep_cell hb C0.out.2.1) (And.intro (keep_cell hb C0.out.2.2.1) (keep_cell hb C0.out.2.2.2))))
      clear hb O0 F0 C0
      go_wp2_with fail
      refine hK.out _ _ ?_ (fun hHeld => ?_)
      ·have hx := HF.out _ (Below.call HB2.out F1.out)
       exact ⟨hx.1, hx.2.1, hx.2.2.1, hx.2.2.2, C1.out.1, C1.out.2.1, C1.out.2.2.1, C1.out.2.2.2⟩
      clear hK K
      (try simp only [Act.put, List.setIfInBounds_toArray, List.set_cons_zero, List.set_cons_succ])
      refine wpAnyH_take (i := 6) (oi := ⟨some 23, _, _, _, _, _⟩) (v := ?_) rfl (by kernel_rfl) (by kernel_rfl) (by kernel_rfl) (fun _ _ _ h => h) (Or.inl ⟨by kernel_rfl, ?_⟩) (by assumption) ?_
      rotate_left 1
      ·((intro w hSw; (try dsimp only at hSw); go_simp) <;> (try with_reducible rfl))
      (try simp only [Act.put, List.setIfInBounds_toArray, List.set_cons_zero, List.set_cons_succ])
      refine wpAnyH_take (i := 7) (oi := ⟨some 30, _, _, _, _, _⟩) (v := ?_) rfl (by kernel_rfl) (by kernel_rfl) (by kernel_rfl) (fun _ _ _ h => h) (Or.inl ⟨by kernel_rfl, ?_⟩) (by assumption) ?_
      rotate_left 1
      ·((intro w hSw; (try dsimp only at hSw); go_simp) <;> (try with_reducible rfl))
      (try simp only [Act.put, List.setIfInBounds_toArray, List.set_cons_zero, List.set_cons_succ])
      refine wpAnyH_take (i := 8) (oi := ⟨some 31, _, _, _, _, _⟩) (v := ?_) rfl (by kernel_rfl) (by kernel_rfl) (by kernel_rfl) (fun _ _ _ h => h) (Or.inl ⟨by kernel_rfl, ?_⟩) (by assumption) ?_
      rotate_left 1
      ·((intro w hSw; (try dsimp only at hSw); go_simp) <;> (try with_reducible rfl))
      (try simp only [Act.put, List.setIfInBounds_toArray, List.set_cons_zero, List.set_cons_succ])
      refine wpAnyH_ready (rs := [9]) (by kernel_rfl) (by simp) ?_
      refine AllReadyH.cons (o := ⟨some 8, _, _, _, _, _⟩) rfl (fun K hK => ?_) AllReadyH.nil
      go_simp
      have hb := Below.al (Below.refl _ v1) (.cells #[.int .i64 0, .int .i64 0] 101)
      have O2 := Lib.hid (O1.out.below hb)
      have F2 := Lib.hid (Below.call F1.out hb)
      have C2 := Lib.hid (And.intro (keep_cell hb C1.out.1) (And.intro (keep_cell hb C1.out.2.1) (And.intro (keep_cell hb C1.out.2.2.1) (keep_cell hb C1.out.2.2.2))))
      have D2 := Lib.hid (Cell2.new v1 0 0)
      have NE := Lib.hid (show w2.heap.size ≤ v1.heap.size from F1.out.size)
      have NO := Lib.hid (show u5.ownBlock = none ∨ u5.ownBlock ≠ some v1.heap.size from .inr (fun e => Nat.lt_irrefl _ (O1.out.lt _ e).2))
      clear hb O1 F1 C1
      generalize v1.alloc (.cells #[.int .i64 0, .int .i64 0] 101) = v2 at *
      generalize v1.heap.size = D at *
      refine hK.out _ _ ?_ (fun hHeld => ?_)
      ·have hx := HF.out _ (Below.call HB2.out F2.out)
       exact ⟨hx.1, hx.2.1, hx.2.2.1, hx.2.2.2, C2.out.1, C2.out.2.1, C2.out.2.2.1, C2.out.2.2.2⟩
      clear hK K
      (try simp only [Act.put, List.setIfInBounds_toArray, List.set_cons_zero, List.set_cons_succ])
      refine wpAnyH_ready (rs := [10]) (by kernel_rfl) (by simp) ?_
      refine AllReadyH.cons (o := ⟨none, _, _, _, _, _⟩) rfl (fun K hK => ?_) AllReadyH.nil
      obtain ⟨s0, s1, y0, y1, _⟩ := D2.out
      go_simp
      clear s0 s1 y0 y1
      have hgs := gb_trans (gb_set v2 D 0 (.int .i64 t1)) (gb_set (v2.setCell ⟨D, 0, none⟩ (.int .i64 t1)) D 1 (.int .i64 t2))
      have OX := Lib.hid (show KS.Own ((v2.setCell ⟨D, 0, none⟩ (.int .i64 t1)).setCell ⟨D, 1, none⟩ (.int .i64 t2)) w2.heap.size u5 L from O2.out.kept hgs NO.out)
      have FX := Lib.hid (show Below w2.heap.size w2 ((v2.setCell ⟨D, 0, none⟩ (.int .i64 t1)).setCell ⟨D, 1, none⟩ (.int .i64 t2)) from Below.st (Below.st F2.out NE.out) NE.out)
      have DX := Lib.hid (show Cell2 ((v2.setCell ⟨D, 0, none⟩ (.int .i64 t1)).setCell ⟨D, 1, none⟩ (.int .i64 t2)) D t1 t2 from D2.out.set t1 t2)
      clear hgs
      have hbn : b ≠ D := by have := NE.out; omega
      have CX := Lib.hid (show ((v2.setCell ⟨D, 0, none⟩ (.int .i64 t1)).setCell ⟨D, 1, none⟩ (.int .i64 t2)).cell? ⟨b, off + k * 4, none⟩ = some (.int .i64 pa) ∧ ((v2.setCell ⟨D, 0, none⟩ (.int .i64 t1)).setCell ⟨D, 1, none⟩ (.int .i64 t2)).cell? ⟨b, off + k * 4 + 1, none⟩ = some (.int .i64 pb) ∧ ((v2.setCell ⟨D, 0, none⟩ (.int .i64 t1)).setCell ⟨D, 1, none⟩ (.int .i64 t2)).cell? ⟨b, off + k * 4 + 2, none⟩ = some (.int .i64 pc) ∧ ((v2.setCell ⟨D, 0, none⟩ (.int .i64 t1)).setCell ⟨D, 1, none⟩ (.int .i64 t2)).cell? ⟨b, off + k * 4 + 3, none⟩ = some (.int .i64 pd) from ⟨st_other (st_other C2.out.1 (ad_nf (.inl (Ne.symm hbn)))) (ad_nf (.inl (Ne.symm hbn))), st_other (st_other C2.out.2.1 (ad_nf (.inl (Ne.symm hbn)))) (ad_nf (.inl (Ne.symm hbn))), st_other (st_other C2.out.2.2.1 (ad_nf (.inl (Ne.symm hbn)))) (ad_nf (.inl (Ne.symm hbn))), st_other (st_other C2.out.2.2.2 (ad_nf (.inl (Ne.symm hbn)))) (ad_nf (.inl (Ne.symm hbn)))⟩)
      refine hK.out _ _ ?_ (fun hHeld => ?_)
      ·have hx := HF.out _ (Below.call HB2.out FX.out)
       exact ⟨hx.1, hx.2.1, hx.2.2.1, hx.2.2.2, CX.out.1, CX.out.2.1, CX.out.2.2.1, CX.out.2.2.2⟩
      clear hK K
      (try simp only [Act.put, List.setIfInBounds_toArray, List.set_cons_zero, List.set_cons_succ])
      refine wpAnyH_take (i := 11) (oi := ⟨some 9, _, _, _, _, _⟩) (v := ?_) rfl (by kernel_rfl) (by kernel_rfl) (by kernel_rfl) (fun _ _ _ h => h) (Or.inl ⟨by kernel_rfl, ?_⟩) (by assumption) ?_
      rotate_left 1
      ·((intro w hSw; (try dsimp only at hSw); go_simp) <;> (try with_reducible rfl))
      (try simp only [Act.put, List.setIfInBounds_toArray, List.set_cons_zero, List.set_cons_succ])
      refine wpAnyH_done (by kernel_rfl) ?_ _
      clear hHeld O2 F2 C2 D2
      generalize ((v2.setCell ⟨D, 0, none⟩ (.int .i64 t1)).setCell ⟨D, 1, none⟩ (.int .i64 t2)) = vx at *
      obtain ⟨s0, s1, y0, y1, _⟩ := DX.out
      have HOKT := Lib.hid (show KS.ok ((t1 : Int), (t2 : Int)) from ⟨show fits (t1 : Int) by have := HG.out; unfold fits; omega, show fits (t2 : Int) by have := HG.out; unfold fits; omega⟩)
      go_wp2_with (at_builtin; refine Lk.wpList_app (K := KS) _ rfl _ _ rfl rfl w2.heap.size (vx.heap.size + 1) _ _ L [((t1 : Int), (t2 : Int))] rfl rfl (OX.out.alloc _) (Lk.IsL.lit (K := KS) _ ((t1 : Int), (t2 : Int)) _ HOKT.out rfl vx.heap.size rfl) ?c1 ?c2 ?_)
      case c1 => have := HLen.out; simp; omega
      case c2 => have := FX.out.size; simp; omega
      intro v9 w9 hown hgrow _
      have HO9 := Lib.hid hown
      have HB9 := Lib.hid (Lk.Own.grow' (OX.out.alloc (.cells #[.int .i64 t1, .int .i64 t2] 101)) (Below.al FX.out _) (by have := FX.out.size; simp; omega) hgrow)
      clear hown hgrow
      go_wp2
      go_roundw
      case rel => exact ⟨k + 1, by omega, num_i (by omega), HN1.out, by rw [HPT'.out]; exact HO9.out, HB9.out⟩
      case measure => simp [intOf]; omega
     refine AllReadyH.cons (o := ⟨some 8, _, _, _, _, _⟩) rfl (fun K hK => ?_) ?_
     ·go_simp
      have hb := Below.al (Below.refl _ v0) (.cells #[.int .i64 0, .int .i64 0] 101)
      have O3 := Lib.hid (O0.out.below hb)
      have F3 := Lib.hid (Below.call F0.out hb)
      have C3 := Lib.hid (And.intro (keep_cell hb C0.out.1) (And.intro (keep_cell hb C0.out.2.1) (And.intro (keep_cell hb C0.out.2.2.1) (keep_cell hb C0.out.2.2.2))))
      have D3 := Lib.hid (Cell2.new v0 0 0)
      have NE := Lib.hid (show w2.heap.size ≤ v0.heap.size from F0.out.size)
      have NO := Lib.hid (show u5.ownBlock = none ∨ u5.ownBlock ≠ some v0.heap.size from .inr (fun e => Nat.lt_irrefl _ (O0.out.lt _ e).2))
      clear hb O0 F0 C0
      generalize v0.alloc (.cells #[.int .i64 0, .int .i64 0] 101) = v3 at *
      generalize v0.heap.size = D at *
      refine hK.out _ _ ?_ (fun hHeld => ?_)
      ·have hx := HF.out _ (Below.call HB2.out F3.out)
       exact ⟨hx.1, hx.2.1, hx.2.2.1, hx.2.2.2, C3.out.1, C3.out.2.1, C3.out.2.2.1, C3.out.2.2.2⟩
      clear hK K
      (try simp only [Act.put, List.setIfInBounds_toArray, List.set_cons_zero, List.set_cons_succ])
      refine wpAnyH_ready (rs := [5]) (by kernel_rfl) (by simp) ?_
      refine AllReadyH.cons (o := ⟨some 29, _, _, _, _, _⟩) rfl (fun K hK => ?_) AllReadyH.nil
      go_simp
      refine (HKP.out v3 F3.out).mono ?_
      rintro e v4 ⟨rfl, hb⟩
      have O4 := Lib.hid (O3.out.below hb)
      have F4 := Lib.hid (Below.call F3.out hb)
      have C4 := Lib.hid (And.intro (keep_cell hb C3.out.1) (And.intro (keep_cell hb C3.out.2.1) (And.intro (keep_cell hb C3.out.2.2.1) (keep_cell hb C3.out.2.2.2))))
      have D4 := Lib.hid (D3.out.below hb)
      clear hb O3 F3 C3 D3
      go_wp2_with fail
      refine hK.out _ _ ?_ (fun hHeld => ?_)
      ·have hx := HF.out _ (Below.call HB2.out F4.out)
       exact ⟨hx.1, hx.2.1, hx.2.2.1, hx.2.2.2, C4.out.1, C4.out.2.1, C4.out.2.2.1, C4.out.2.2.2⟩
      clear hK K
      (try simp only [Act.put, List.setIfInBounds_toArray, List.set_cons_zero, List.set_cons_succ])
      refine wpAnyH_take (i := 6) (oi := ⟨some 23, _, _, _, _, _⟩) (v := ?_) rfl (by kernel_rfl) (by kernel_rfl) (by kernel_rfl) (fun _ _ _ h => h) (Or.inl ⟨by kernel_rfl, ?_⟩) (by assumption) ?_
      rotate_left 1
      ·((intro w hSw; (try dsimp only at hSw); go_simp) <;> (try with_reducible rfl))
      (try simp only [Act.put, List.setIfInBounds_toArray, List.set_cons_zero, List.set_cons_succ])
      refine wpAnyH_take (i := 7) (oi := ⟨some 30, _, _, _, _, _⟩) (v := ?_) rfl (by kernel_rfl) (by kernel_rfl) (by kernel_rfl) (fun _ _ _ h => h) (Or.inl ⟨by kernel_rfl, ?_⟩) (by assumption) ?_
      rotate_left 1
      ·((intro w hSw; (try dsimp only at hSw); go_simp) <;> (try with_reducible rfl))
      (try simp only [Act.put, List.setIfInBounds_toArray, List.set_cons_zero, List.set_cons_succ])
      refine wpAnyH_take (i := 8) (oi := ⟨some 31, _, _, _, _, _⟩) (v := ?_) rfl (by kernel_rfl) (by kernel_rfl) (by kernel_rfl) (fun _ _ _ h => h) (Or.inl ⟨by kernel_rfl, ?_⟩) (by assumption) ?_
      rotate_left 1
      ·((intro w hSw; (try dsimp only at hSw); go_simp) <;> (try with_reducible rfl))
      (try simp only [Act.put, List.setIfInBounds_toArray, List.set_cons_zero, List.set_cons_succ])
      refine wpAnyH_ready (rs := [10]) (by kernel_rfl) (by simp) ?_
      refine AllReadyH.cons (o := ⟨none, _, _, _, _, _⟩) rfl (fun K hK => ?_) AllReadyH.nil
      obtain ⟨s0, s1, y0, y1, _⟩ := D4.out
      go_simp
      clear s0 s1 y0 y1
      have hgs := gb_trans (gb_set v4 D 0 (.int .i64 t1)) (gb_set (v4.setCell ⟨D, 0, none⟩ (.int .i64 t1)) D 1 (.int .i64 t2))
      have OX := Lib.hid (show KS.Own ((v4.setCell ⟨D, 0, none⟩ (.int .i64 t1)).setCell ⟨D, 1, none⟩ (.int .i64 t2)) w2.heap.size u5 L from O4.out.kept hgs NO.out)
      have FX := Lib.hid (show Below w2.heap.size w2 ((v4.setCell ⟨D, 0, none⟩ (.int .i64 t1)).setCell ⟨D, 1, none⟩ (.int .i64 t2)) from Below.st (Below.st F4.out NE.out) NE.out)
      have DX := Lib.hid (show Cell2 ((v4.setCell ⟨D, 0, none⟩ (.int .i64 t1)).setCell ⟨D, 1, none⟩ (.int .i64 t2)) D t1 t2 from D4.out.set t1 t2)
      clear hgs
      have hbn : b ≠ D := by have := NE.out; omega
      have CX := Lib.hid (show ((v4.setCell ⟨D, 0, none⟩ (.int .i64 t1)).setCell ⟨D, 1, none⟩ (.int .i64 t2)).cell? ⟨b, off + k * 4, none⟩ = some (.int .i64 pa) ∧ ((v4.setCell ⟨D, 0, none⟩ (.int .i64 t1)).setCell ⟨D, 1, none⟩ (.int .i64 t2)).cell? ⟨b, off + k * 4 + 1, none⟩ = some (.int .i64 pb) ∧ ((v4.setCell ⟨D, 0, none⟩ (.int .i64 t1)).setCell ⟨D, 1, none⟩ (.int .i64 t2)).cell? ⟨b, off + k * 4 + 2, none⟩ = some (.int .i64 pc) ∧ ((v4.setCell ⟨D, 0, none⟩ (.int .i64 t1)).setCell ⟨D, 1, none⟩ (.int .i64 t2)).cell? ⟨b, off + k * 4 + 3, none⟩ = some (.int .i64 pd) from ⟨st_other (st_other C4.out.1 (ad_nf (.inl (Ne.symm hbn)))) (ad_nf (.inl (Ne.symm hbn))), st_other (st_other C4.out.2.1 (ad_nf (.inl (Ne.symm hbn)))) (ad_nf (.inl (Ne.symm hbn))), st_other (st_other C4.out.2.2.1 (ad_nf (.inl (Ne.symm hbn)))) (ad_nf (.inl (Ne.symm hbn))), st_other (st_other C4.out.2.2.2 (ad_nf (.inl (Ne.symm hbn)))) (ad_nf (.inl (Ne.symm hbn)))⟩)
      refine hK.out _ _ ?_ (fun hHeld => ?_)
      ·have hx := HF.out _ (Below.call HB2.out FX.out)
       exact ⟨hx.1, hx.2.1, hx.2.2.1, hx.2.2.2, CX.out.1, CX.out.2.1, CX.out.2.2.1, CX.out.2.2.2⟩
      clear hK K
      (try simp only [Act.put, List.setIfInBounds_toArray, List.set_cons_zero, List.set_cons_succ])
      refine wpAnyH_take (i := 11) (oi := ⟨some 9, _, _, _, _, _⟩) (v := ?_) rfl (by kernel_rfl) (by kernel_rfl) (by kernel_rfl) (fun _ _ _ h => h) (Or.inl ⟨by kernel_rfl, ?_⟩) (by assumption) ?_
      rotate_left 1
      ·((intro w hSw; (try dsimp only at hSw); go_simp) <;> (try with_reducible rfl))
      (try simp only [Act.put, List.setIfInBounds_toArray, List.set_cons_zero, List.set_cons_succ])
      refine wpAnyH_done (by kernel_rfl) ?_ _
      clear hHeld O4 F4 C4 D4
      generalize ((v4.setCell ⟨D, 0, none⟩ (.int .i64 t1)).setCell ⟨D, 1, none⟩ (.int .i64 t2)) = vx at *
      obtain ⟨s0, s1, y0, y1, _⟩ := DX.out
      have HOKT := Lib.hid (show KS.ok ((t1 : Int), (t2 : Int)) from ⟨show fits (t1 : Int) by have := HG.out; unfold fits; omega, show fits (t2 : Int) by have := HG.out; unfold fits; omega⟩)
      go_wp2_with (at_builtin; refine Lk.wpList_app (K := KS) _ rfl _ _ rfl rfl w2.heap.size (vx.heap.size + 1) _ _ L [((t1 : Int), (t2 : Int))] rfl rfl (OX.out.alloc _) (Lk.IsL.lit (K := KS) _ ((t1 : Int), (t2 : Int)) _ HOKT.out rfl vx.heap.size rfl) ?c1 ?c2 ?_)
      case c1 => have := HLen.out; simp; omega
      case c2 => have := FX.out.size; simp; omega
      intro v9 w9 hown hgrow _
      have HO9 := Lib.hid hown
      have HB9 := Lib.hid (Lk.Own.grow' (OX.out.alloc (.cells #[.int .i64 t1, .int .i64 t2] 101)) (Below.al FX.out _) (by have := FX.out.size; simp; omega) hgrow)
      clear hown hgrow
      go_wp2
      go_roundw
      case rel => exact ⟨k + 1, by omega, num_i (by omega), HN1.out, by rw [HPT'.out]; exact HO9.out, HB9.out⟩
      case measure => simp [intOf]; omega
     exact AllReadyH.nil
    ·have HER := Lib.hid (HFS'.out t3 ht rfl)
     have q1 : (t3 != 0) = true := by rw [bne_iff_ne]; exact ht
     have HNE := Lib.hid ht
     clear HFS' HFT' HSG' ht
     go_wp2_with fail
     refine wp_region_held_drew (S := fun w' => w'.cell? ⟨w.heap.size, 0, none⟩ = some (.slice d.bA d.bn d.bc) ∧ w'.cell? ⟨w.heap.size, 1, none⟩ = some (.slice d.pA d.pn d.pc) ∧ w'.cell? ⟨w.heap.size, 2, none⟩ = some (.slice d.rA d.rn d.rc) ∧ w'.cell? ⟨w.heap.size, 3, none⟩ = some (.int .i64 d.arms) ∧ w'.cell? ⟨b, off + k * 4, none⟩ = some (.int .i64 pa) ∧ w'.cell? ⟨b, off + k * 4 + 1, none⟩ = some (.int .i64 pb) ∧ w'.cell? ⟨b, off + k * 4 + 2, none⟩ = some (.int .i64 pc) ∧ w'.cell? ⟨b, off + k * 4 + 3, none⟩ = some (.int .i64 pd)) (by kernel_rfl) ?_ (fun hHeld => ?_)
     ·exact ⟨d0, d1, d2, d3, c0, c1, c2, c3⟩
     refine wpAnyH_take (i := 0) (oi := ⟨some 24, _, _, _, _, _⟩) (v := ?_) rfl (by kernel_rfl) (by kernel_rfl) (by kernel_rfl) (fun _ _ _ h => h) (Or.inl ⟨by kernel_rfl, ?_⟩) (by assumption) ?_
     rotate_left 1
     ·((intro w hSw; (try dsimp only at hSw); go_simp) <;> (try with_reducible rfl))
     (try simp only [Act.put, List.setIfInBounds_toArray, List.set_cons_zero, List.set_cons_succ])
     refine wpAnyH_take (i := 1) (oi := ⟨some 25, _, _, _, _, _⟩) (v := ?_) rfl (by kernel_rfl) (by kernel_rfl) (by kernel_rfl) (fun _ _ _ h => h) (Or.inl ⟨by kernel_rfl, ?_⟩) (by assumption) ?_
     rotate_left 1
     ·((intro w hSw; (try dsimp only at hSw); go_simp) <;> (try with_reducible rfl))
     (try simp only [Act.put, List.setIfInBounds_toArray, List.set_cons_zero, List.set_cons_succ])
     refine wpAnyH_take (i := 2) (oi := ⟨some 26, _, _, _, _, _⟩) (v := ?_) rfl (by kernel_rfl) (by kernel_rfl) (by kernel_rfl) (fun _ _ _ h => h) (Or.inl ⟨by kernel_rfl, ?_⟩) (by assumption) ?_
     rotate_left 1
     ·((intro w hSw; (try dsimp only at hSw); go_simp) <;> (try with_reducible rfl))
     (try simp only [Act.put, List.setIfInBounds_toArray, List.set_cons_zero, List.set_cons_succ])
     refine wpAnyH_take (i := 3) (oi := ⟨some 27, _, _, _, _, _⟩) (v := ?_) rfl (by kernel_rfl) (by kernel_rfl) (by kernel_rfl) (fun _ _ _ h => h) (Or.inl ⟨by kernel_rfl, ?_⟩) (by assumption) ?_
     rotate_left 1
     ·((intro w hSw; (try dsimp only at hSw); go_simp) <;> (try with_reducible rfl))
     (try simp only [Act.put, List.setIfInBounds_toArray, List.set_cons_zero, List.set_cons_succ])
     refine wpAnyH_take (i := 4) (oi := ⟨some 28, _, _, _, _, _⟩) (v := ?_) rfl (by kernel_rfl) (by kernel_rfl) (by kernel_rfl) (fun _ _ _ h => h) (Or.inl ⟨by kernel_rfl, ?_⟩) (by assumption) ?_
     rotate_left 1
     ·((intro w hSw; (try dsimp only at hSw); go_simp) <;> (try with_reducible rfl))
     (try simp only [Act.put, List.setIfInBounds_toArray, List.set_cons_zero, List.set_cons_succ])
     clear d0 d1 d2 d3 c0 c1 c2 c3
     have O0 := Lib.hid (show KS.Own wr.drew w2.heap.size u5 L from HO.out.drew)
     have F0 := Lib.hid (show Below w2.heap.size w2 wr.drew from HB.out.drew)
     have C0 := Lib.hid (show wr.drew.cell? ⟨b, off + k * 4, none⟩ = some (.int .i64 pa) ∧ wr.drew.cell? ⟨b, off + k * 4 + 1, none⟩ = some (.int .i64 pb) ∧ wr.drew.cell? ⟨b, off + k * 4 + 2, none⟩ = some (.int .i64 pc) ∧ wr.drew.cell? ⟨b, off + k * 4 + 3, none⟩ = some (.int .i64 pd) from CK.out)
     generalize wr.drew = v0 at *
     refine wpAnyH_ready (rs := [5, 9]) (by kernel_rfl) (by simp) ?_
     refine AllReadyH.cons (o := ⟨some 29, _, _, _, _, _⟩) rfl (fun K hK => ?_) ?_
     ·go_simp
      refine (HKP.out v0 F0.out).mono ?_
      rintro e v1 ⟨rfl, hb⟩
      have O1 := Lib.hid (O0.out.below hb)
      have F1 := Lib.hid (Below.call F0.out hb)
      have C1 := Lib.hid (And.intro (keep_cell hb C0.out.1) (And.intro (keep_cell hb C0.out.2.1) (And.intro (keep_cell hb C0.out.2.2.1) (keep_cell hb C0.out.2.2.2))))
      clear hb O0 F0 C0
      go_wp2_with fail
      refine hK.out _ _ ?_ (fun hHeld => ?_)
      ·have hx := HF.out _ (Below.call HB2.out F1.out)
       exact ⟨hx.1, hx.2.1, hx.2.2.1, hx.2.2.2, C1.out.1, C1.out.2.1, C1.out.2.2.1, C1.out.2.2.2⟩
      clear hK K
      (try simp only [Act.put, List.setIfInBounds_toArray, List.set_cons_zero, List.set_cons_succ])
      refine wpAnyH_take (i := 6) (oi := ⟨some 23, _, _, _, _, _⟩) (v := ?_) rfl (by kernel_rfl) (by kernel_rfl) (by kernel_rfl) (fun _ _ _ h => h) (Or.inl ⟨by kernel_rfl, ?_⟩) (by assumption) ?_
      rotate_left 1
      ·((intro w hSw; (try dsimp only at hSw); go_simp) <;> (try with_reducible rfl))
      (try simp only [Act.put, List.setIfInBounds_toArray, List.set_cons_zero, List.set_cons_succ])
      refine wpAnyH_take (i := 7) (oi := ⟨some 30, _, _, _, _, _⟩) (v := ?_) rfl (by kernel_rfl) (by kernel_rfl) (by kernel_rfl) (fun _ _ _ h => h) (Or.inl ⟨by kernel_rfl, ?_⟩) (by assumption) ?_
      rotate_left 1
      ·((intro w hSw; (try dsimp only at hSw); go_simp) <;> (try with_reducible rfl))
      (try simp only [Act.put, List.setIfInBounds_toArray, List.set_cons_zero, List.set_cons_succ])
      refine wpAnyH_take (i := 8) (oi := ⟨some 31, _, _, _, _, _⟩) (v := ?_) rfl (by kernel_rfl) (by kernel_rfl) (by kernel_rfl) (fun _ _ _ h => h) (Or.inl ⟨by kernel_rfl, ?_⟩) (by assumption) ?_
      rotate_left 1
      ·((intro w hSw; (try dsimp only at hSw); go_simp) <;> (try with_reducible rfl))
      (try simp only [Act.put, List.setIfInBounds_toArray, List.set_cons_zero, List.set_cons_succ])
      refine wpAnyH_ready (rs := [9]) (by kernel_rfl) (by simp) ?_
      refine AllReadyH.cons (o := ⟨some 8, _, _, _, _, _⟩) rfl (fun K hK => ?_) AllReadyH.nil
      go_simp
      have hb := Below.al (Below.refl _ v1) (.cells #[.int .i64 0, .int .i64 0] 101)
      have O2 := Lib.hid (O1.out.below hb)
      have F2 := Lib.hid (Below.call F1.out hb)
      have C2 := Lib.hid (And.intro (keep_cell hb C1.out.1) (And.intro (keep_cell hb C1.out.2.1) (And.intro (keep_cell hb C1.out.2.2.1) (keep_cell hb C1.out.2.2.2))))
      have D2 := Lib.hid (Cell2.new v1 0 0)
      have NE := Lib.hid (show w2.heap.size ≤ v1.heap.size from F1.out.size)
      have NO := Lib.hid (show u5.ownBlock = none ∨ u5.ownBlock ≠ some v1.heap.size from .inr (fun e => Nat.lt_irrefl _ (O1.out.lt _ e).2))
      clear hb O1 F1 C1
      generalize v1.alloc (.cells #[.int .i64 0, .int .i64 0] 101) = v2 at *
      generalize v1.heap.size = D at *
      refine hK.out _ _ ?_ (fun hHeld => ?_)
      ·have hx := HF.out _ (Below.call HB2.out F2.out)
       exact ⟨hx.1, hx.2.1, hx.2.2.1, hx.2.2.2, C2.out.1, C2.out.2.1, C2.out.2.2.1, C2.out.2.2.2⟩
      clear hK K
      (try simp only [Act.put, List.setIfInBounds_toArray, List.set_cons_zero, List.set_cons_succ])
      refine wpAnyH_ready (rs := [10]) (by kernel_rfl) (by simp) ?_
      refine AllReadyH.cons (o := ⟨none, _, _, _, _, _⟩) rfl (fun K hK => ?_) AllReadyH.nil
      obtain ⟨s0, s1, y0, y1, _⟩ := D2.out
      go_simp
      clear s0 s1 y0 y1
      have hgs := gb_trans (gb_set v2 D 0 (.int .i64 t1)) (gb_set (v2.setCell ⟨D, 0, none⟩ (.int .i64 t1)) D 1 (.int .i64 t2))
      have OX := Lib.hid (show KS.Own ((v2.setCell ⟨D, 0, none⟩ (.int .i64 t1)).setCell ⟨D, 1, none⟩ (.int .i64 t2)) w2.heap.size u5 L from O2.out.kept hgs NO.out)
      have FX := Lib.hid (show Below w2.heap.size w2 ((v2.setCell ⟨D, 0, none⟩ (.int .i64 t1)).setCell ⟨D, 1, none⟩ (.int .i64 t2)) from Below.st (Below.st F2.out NE.out) NE.out)
      have DX := Lib.hid (show Cell2 ((v2.setCell ⟨D, 0, none⟩ (.int .i64 t1)).setCell ⟨D, 1, none⟩ (.int .i64 t2)) D t1 t2 from D2.out.set t1 t2)
      clear hgs
      have hbn : b ≠ D := by have := NE.out; omega
      have CX := Lib.hid (show ((v2.setCell ⟨D, 0, none⟩ (.int .i64 t1)).setCell ⟨D, 1, none⟩ (.int .i64 t2)).cell? ⟨b, off + k * 4, none⟩ = some (.int .i64 pa) ∧ ((v2.setCell ⟨D, 0, none⟩ (.int .i64 t1)).setCell ⟨D, 1, none⟩ (.int .i64 t2)).cell? ⟨b, off + k * 4 + 1, none⟩ = some (.int .i64 pb) ∧ ((v2.setCell ⟨D, 0, none⟩ (.int .i64 t1)).setCell ⟨D, 1, none⟩ (.int .i64 t2)).cell? ⟨b, off + k * 4 + 2, none⟩ = some (.int .i64 pc) ∧ ((v2.setCell ⟨D, 0, none⟩ (.int .i64 t1)).setCell ⟨D, 1, none⟩ (.int .i64 t2)).cell? ⟨b, off + k * 4 + 3, none⟩ = some (.int .i64 pd) from ⟨st_other (st_other C2.out.1 (ad_nf (.inl (Ne.symm hbn)))) (ad_nf (.inl (Ne.symm hbn))), st_other (st_other C2.out.2.1 (ad_nf (.inl (Ne.symm hbn)))) (ad_nf (.inl (Ne.symm hbn))), st_other (st_other C2.out.2.2.1 (ad_nf (.inl (Ne.symm hbn)))) (ad_nf (.inl (Ne.symm hbn))), st_other (st_other C2.out.2.2.2 (ad_nf (.inl (Ne.symm hbn)))) (ad_nf (.inl (Ne.symm hbn)))⟩)
      refine hK.out _ _ ?_ (fun hHeld => ?_)
      ·have hx := HF.out _ (Below.call HB2.out FX.out)
       exact ⟨hx.1, hx.2.1, hx.2.2.1, hx.2.2.2, CX.out.1, CX.out.2.1, CX.out.2.2.1, CX.out.2.2.2⟩
      clear hK K
      (try simp only [Act.put, List.setIfInBounds_toArray, List.set_cons_zero, List.set_cons_succ])
      refine wpAnyH_take (i := 11) (oi := ⟨some 9, _, _, _, _, _⟩) (v := ?_) rfl (by kernel_rfl) (by kernel_rfl) (by kernel_rfl) (fun _ _ _ h => h) (Or.inl ⟨by kernel_rfl, ?_⟩) (by assumption) ?_
      rotate_left 1
      ·((intro w hSw; (try dsimp only at hSw); go_simp) <;> (try with_reducible rfl))
      (try simp only [Act.put, List.setIfInBounds_toArray, List.set_cons_zero, List.set_cons_succ])
      refine wpAnyH_done (by kernel_rfl) ?_ _
      clear hHeld O2 F2 C2 D2
      generalize ((v2.setCell ⟨D, 0, none⟩ (.int .i64 t1)).setCell ⟨D, 1, none⟩ (.int .i64 t2)) = vx at *
      go_wp2
      go_ret2
      have hE := HEE.out.trans HER.out
      have hT := HTT.out
      rw [if_neg (by rw [hE]; exact HNE.out)] at hT
      subst hE hT
      exact ⟨_, rfl, Lk.Own.nil _ _, Below.call HB0.out (Below.call HB2.out FX.out)⟩
     refine AllReadyH.cons (o := ⟨some 8, _, _, _, _, _⟩) rfl (fun K hK => ?_) ?_
     ·go_simp
      have hb := Below.al (Below.refl _ v0) (.cells #[.int .i64 0, .int .i64 0] 101)
      have O3 := Lib.hid (O0.out.below hb)
      have F3 := Lib.hid (Below.call F0.out hb)
      have C3 := Lib.hid (And.intro (keep_cell hb C0.out.1) (And.intro (keep_cell hb C0.out.2.1) (And.intro (keep_cell hb C0.out.2.2.1) (keep_cell hb C0.out.2.2.2))))
      have D3 := Lib.hid (Cell2.new v0 0 0)
      have NE := Lib.hid (show w2.heap.size ≤ v0.heap.size from F0.out.size)
      have NO := Lib.hid (show u5.ownBlock = none ∨ u5.ownBlock ≠ some v0.heap.size from .inr (fun e => Nat.lt_irrefl _ (O0.out.lt _ e).2))
      clear hb O0 F0 C0
      generalize v0.alloc (.cells #[.int .i64 0, .int .i64 0] 101) = v3 at *
      generalize v0.heap.size = D at *
      refine hK.out _ _ ?_ (fun hHeld => ?_)
      ·have hx := HF.out _ (Below.call HB2.out F3.out)
       exact ⟨hx.1, hx.2.1, hx.2.2.1, hx.2.2.2, C3.out.1, C3.out.2.1, C3.out.2.2.1, C3.out.2.2.2⟩
      clear hK K
      (try simp only [Act.put, List.setIfInBounds_toArray, List.set_cons_zero, List.set_cons_succ])
      refine wpAnyH_ready (rs := [5]) (by kernel_rfl) (by simp) ?_
      refine AllReadyH.cons (o := ⟨some 29, _, _, _, _, _⟩) rfl (fun K hK => ?_) AllReadyH.nil
      go_simp
      refine (HKP.out v3 F3.out).mono ?_
      rintro e v4 ⟨rfl, hb⟩
      have O4 := Lib.hid (O3.out.below hb)
      have F4 := Lib.hid (Below.call F3.out hb)
      have C4 := Lib.hid (And.intro (keep_cell hb C3.out.1) (And.intro (keep_cell hb C3.out.2.1) (And.intro (keep_cell hb C3.out.2.2.1) (keep_cell hb C3.out.2.2.2))))
      have D4 := Lib.hid (D3.out.below hb)
      clear hb O3 F3 C3 D3
      go_wp2_with fail
      refine hK.out _ _ ?_ (fun hHeld => ?_)
      ·have hx := HF.out _ (Below.call HB2.out F4.out)
       exact ⟨hx.1, hx.2.1, hx.2.2.1, hx.2.2.2, C4.out.1, C4.out.2.1, C4.out.2.2.1, C4.out.2.2.2⟩
      clear hK K
      (try simp only [Act.put, List.setIfInBounds_toArray, List.set_cons_zero, List.set_cons_succ])
      refine wpAnyH_take (i := 6) (oi := ⟨some 23, _, _, _, _, _⟩) (v := ?_) rfl (by kernel_rfl) (by kernel_rfl) (by kernel_rfl) (fun _ _ _ h => h) (Or.inl ⟨by kernel_rfl, ?_⟩) (by assumption) ?_
      rotate_left 1
      ·((intro w hSw; (try dsimp only at hSw); go_simp) <;> (try with_reducible rfl))
      (try simp only [Act.put, List.setIfInBounds_toArray, List.set_cons_zero, List.set_cons_succ])
      refine wpAnyH_take (i := 7) (oi := ⟨some 30, _, _, _, _, _⟩) (v := ?_) rfl (by kernel_rfl) (by kernel_rfl) (by kernel_rfl) (fun _ _ _ h => h) (Or.inl ⟨by kernel_rfl, ?_⟩) (by assumption) ?_
      rotate_left 1
      ·((intro w hSw; (try dsimp only at hSw); go_simp) <;> (try with_reducible rfl))
      (try simp only [Act.put, List.setIfInBounds_toArray, List.set_cons_zero, List.set_cons_succ])
      refine wpAnyH_take (i := 8) (oi := ⟨some 31, _, _, _, _, _⟩) (v := ?_) rfl (by kernel_rfl) (by kernel_rfl) (by kernel_rfl) (fun _ _ _ h => h) (Or.inl ⟨by kernel_rfl, ?_⟩) (by assumption) ?_
      rotate_left 1
      ·((intro w hSw; (try dsimp only at hSw); go_simp) <;> (try with_reducible rfl))
      (try simp only [Act.put, List.setIfInBounds_toArray, List.set_cons_zero, List.set_cons_succ])
      refine wpAnyH_ready (rs := [10]) (by kernel_rfl) (by simp) ?_
      refine AllReadyH.cons (o := ⟨none, _, _, _, _, _⟩) rfl (fun K hK => ?_) AllReadyH.nil
      obtain ⟨s0, s1, y0, y1, _⟩ := D4.out
      go_simp
      clear s0 s1 y0 y1
      have hgs := gb_trans (gb_set v4 D 0 (.int .i64 t1)) (gb_set (v4.setCell ⟨D, 0, none⟩ (.int .i64 t1)) D 1 (.int .i64 t2))
      have OX := Lib.hid (show KS.Own ((v4.setCell ⟨D, 0, none⟩ (.int .i64 t1)).setCell ⟨D, 1, none⟩ (.int .i64 t2)) w2.heap.size u5 L from O4.out.kept hgs NO.out)
      have FX := Lib.hid (show Below w2.heap.size w2 ((v4.setCell ⟨D, 0, none⟩ (.int .i64 t1)).setCell ⟨D, 1, none⟩ (.int .i64 t2)) from Below.st (Below.st F4.out NE.out) NE.out)
      have DX := Lib.hid (show Cell2 ((v4.setCell ⟨D, 0, none⟩ (.int .i64 t1)).setCell ⟨D, 1, none⟩ (.int .i64 t2)) D t1 t2 from D4.out.set t1 t2)
      clear hgs
      have hbn : b ≠ D := by have := NE.out; omega
      have CX := Lib.hid (show ((v4.setCell ⟨D, 0, none⟩ (.int .i64 t1)).setCell ⟨D, 1, none⟩ (.int .i64 t2)).cell? ⟨b, off + k * 4, none⟩ = some (.int .i64 pa) ∧ ((v4.setCell ⟨D, 0, none⟩ (.int .i64 t1)).setCell ⟨D, 1, none⟩ (.int .i64 t2)).cell? ⟨b, off + k * 4 + 1, none⟩ = some (.int .i64 pb) ∧ ((v4.setCell ⟨D, 0, none⟩ (.int .i64 t1)).setCell ⟨D, 1, none⟩ (.int .i64 t2)).cell? ⟨b, off + k * 4 + 2, none⟩ = some (.int .i64 pc) ∧ ((v4.setCell ⟨D, 0, none⟩ (.int .i64 t1)).setCell ⟨D, 1, none⟩ (.int .i64 t2)).cell? ⟨b, off + k * 4 + 3, none⟩ = some (.int .i64 pd) from ⟨st_other (st_other C4.out.1 (ad_nf (.inl (Ne.symm hbn)))) (ad_nf (.inl (Ne.symm hbn))), st_other (st_other C4.out.2.1 (ad_nf (.inl (Ne.symm hbn)))) (ad_nf (.inl (Ne.symm hbn))), st_other (st_other C4.out.2.2.1 (ad_nf (.inl (Ne.symm hbn)))) (ad_nf (.inl (Ne.symm hbn))), st_other (st_other C4.out.2.2.2 (ad_nf (.inl (Ne.symm hbn)))) (ad_nf (.inl (Ne.symm hbn)))⟩)
      refine hK.out _ _ ?_ (fun hHeld => ?_)
      ·have hx := HF.out _ (Below.call HB2.out FX.out)
       exact ⟨hx.1, hx.2.1, hx.2.2.1, hx.2.2.2, CX.out.1, CX.out.2.1, CX.out.2.2.1, CX.out.2.2.2⟩
      clear hK K
      (try simp only [Act.put, List.setIfInBounds_toArray, List.set_cons_zero, List.set_cons_succ])
      refine wpAnyH_take (i := 11) (oi := ⟨some 9, _, _, _, _, _⟩) (v := ?_) rfl (by kernel_rfl) (by kernel_rfl) (by kernel_rfl) (fun _ _ _ h => h) (Or.inl ⟨by kernel_rfl, ?_⟩) (by assumption) ?_
      rotate_left 1
      ·((intro w hSw; (try dsimp only at hSw); go_simp) <;> (try with_reducible rfl))
      (try simp only [Act.put, List.setIfInBounds_toArray, List.set_cons_zero, List.set_cons_succ])
      refine wpAnyH_done (by kernel_rfl) ?_ _
      clear hHeld O4 F4 C4 D4
      generalize ((v4.setCell ⟨D, 0, none⟩ (.int .i64 t1)).setCell ⟨D, 1, none⟩ (.int .i64 t2)) = vx at *
      go_wp2
      go_ret2
      have hE := HEE.out.trans HER.out
      have hT := HTT.out
      rw [if_neg (by rw [hE]; exact HNE.out)] at hT
      subst hE hT
      exact ⟨_, rfl, Lk.Own.nil _ _, Below.call HB0.out (Below.call HB2.out FX.out)⟩
     exact AllReadyH.nil
   ·obtain rfl : k = PS.length := by omega
    have e : TT.take PS.length = TT := List.take_of_length_le (by rw [HTL.out]; exact Nat.le_refl _)
    rw [e] at HE0 HO
    clear e
    go_wp2
    go_ret2
    have hE := HEE.out.trans HE0.out
    have hT := HTT.out
    rw [if_pos hE] at hT
    subst hE hT
    exact ⟨_, rfl, HO.out.mono (by rw [← hQ]; exact HQS.out), Below.call HB0.out (Below.call HB2.out HB.out)⟩
 ·have T : zchk d = dchk d := by unfold zchk; rw [if_neg hz]
  have T2 : tabV d = [] := by unfold tabV; rw [if_neg (by rw [T]; exact hz)]
  rw [T, T2]
  have hz' : (dchk d != 0) = true := by rw [bne_iff_ne]; exact hz
  clear T T2 hz hd
  generalize dchk d = c at *
  go_enter Tryd.func45, Tryd.ntmps45
  go_wp2_with fail
  rw [← hw0]
  clear hw0
  refine (HC.out _ HD0.out).mono ?_
  rintro e w1 ⟨rfl, hb1⟩
  have HB1 := Lib.hid hb1
  clear hb1
  go_wp2
  go_ret2
  exact ⟨_, rfl, Lk.Own.nil _ _, Below.call HB0.out HB1.out⟩
end Go.Proofs.YtmecohdedghiaaaDoor
namespace Go.Proofs.YtmecohdedghiaaaDoor.Sp
open Go.RowKit
/-- Two whole numbers as a struct's value. -/
abbrev sv (x y : Int) : Value := .agg #[.int .i64 x, .int .i64 y]
/-- What two spans have in common. -/
def cutV (a b : Int × Int) : Int × Int := if max a.1 b.1 ≤ min a.2 b.2 then (max a.1 b.1, min a.2 b.2) else (0, -1)
def meetsB (a b : Int × Int) : Bool := decide (max a.1 b.1 ≤ min a.2 b.2)
def hullV (a b : Int × Int) : Int × Int := if a.2 < a.1 then (if b.2 < b.1 then (0, -1) else b) else if b.2 < b.1 then a else (min a.1 b.1, max a.2 b.2)
def hasB (a : Int × Int) (n : Int) : Bool := decide (a.1 ≤ n ∧ n ≤ a.2)
def lenV (a : Int × Int) : Int := if a.2 < a.1 then 0 else if a.2 - a.1 < 9223372036854775807 then a.2 - a.1 + 1 else 9223372036854775807
set_option maxHeartbeats 400000 in
theorem empty_any (a b : Int) (w : World) : Calls Tryd.prog 87 #[.agg #[.int .i64 a, .int .i64 b]] w fun e w' => e = .returned (.bool (decide (b < a))) ∧ Below w.heap.size w w' := by
 go_enter Tryd.func87, Tryd.ntmps87
 go_wp2
 go_ret
 exact ⟨ret_b rfl, (Below.refl _ _).alloc (Nat.le_refl _) _⟩
set_option maxHeartbeats 400000 in
theorem none_any (w : World) : Calls Tryd.prog 88 #[] w fun e w' => e = .returned (.agg #[.int .i64 0, .int .i64 (-1)]) ∧ Below w.heap.size w w' := by
 go_enter Tryd.func88, Tryd.ntmps88
 go_wp2
 exact bodyPost_ret (v := .agg #[.int .i64 0, .int .i64 (-1)]) (by simp [results, Tryd.results88, go_sem]) rfl ⟨rfl, (Below.refl _ _).alloc (Nat.le_refl _) _⟩
/-- Behind a call that makes memory all that was there is as it was. -/
theorem bcell {W w1 : World} (hb : Below W.heap.size W w1) : (∀ b o, b < W.heap.size → w1.cell? ⟨b, o, none⟩ = W.cell? ⟨b, o, none⟩) ∧ (∀ b o, b < W.heap.size → w1.frozen? ⟨b, o, none⟩ = W.frozen? ⟨b, o, none⟩) :=
 ⟨fun b o h => hb.cell (p := ⟨b, o, none⟩) h, fun b o h => hb.frozen (p := ⟨b, o, none⟩) h⟩
theorem Below.al {w w' : World} (h : Below w.heap.size w w') (o : Obj) : Below w.heap.size w (w'.alloc o) := h.alloc h.size o
theorem Below.call {w w' w'' : World} (h : Below w.heap.size w w') (k : Below w'.heap.size w' w'') : Below w.heap.size w w'' := h.trans (k.mono h.size)
theorem Below.st {w w' : World} {p : Addr} {v : Value} (h : Below w.heap.size w w') (hp : w.heap.size ≤ p.block) : Below w.heap.size w (w'.setCell p v) := h.setCell hp v
theorem hullV_nn {a b c d : Int} (h : b < a) (k : d < c) : hullV (a, b) (c, d) = (0, -1) := by simp [hullV, h, k]
theorem hullV_ny {a b c d : Int} (h : b < a) (k : ¬ d < c) : hullV (a, b) (c, d) = (c, d) := by simp [hullV, h, k]
theorem hullV_yn {a b c d : Int} (h : ¬ b < a) (k : d < c) : hullV (a, b) (c, d) = (a, b) := by simp [hullV, h, k]
theorem hullV_yy {a b c d : Int} (h : ¬ b < a) (k : ¬ d < c) : hullV (a, b) (c, d) = (min a c, max b d) := by simp [hullV, h, k]
set_option maxHeartbeats 1000000 in
theorem hull_nn (a b c d : Int) (h : b < a) (k : d < c) (w : World) : Calls Tryd.prog 67 #[.agg #[.int .i64 a, .int .i64 b], .agg #[.int .i64 c, .int .i64 d]] w fun e w' => e = .returned (.agg #[.int .i64 0, .int .i64 (-1)]) ∧ Below w.heap.size w w' := by
 go_enter Tryd.func67, Tryd.ntmps67
 go_wp2_with fail
 refine (empty_any _ _ _).mono ?_
 rintro e w1 ⟨rfl, hb1⟩
 obtain ⟨hc1, hf1⟩ := bcell hb1
 have HB1 := Lib.hid hb1
 have hz1_0 : w.heap.size < w1.heap.size := by (have := hb1.size; (try simp at this) <;> omega)
 have hz1_1 : w.heap.size + 1 < w1.heap.size := by (have := hb1.size; (try simp at this) <;> omega)
 have hz1_2 : w.heap.size + 1 + 1 < w1.heap.size := by (have := hb1.size; (try simp at this) <;> omega)
 clear hb1
 go_wp2_with fail
 refine (empty_any _ _ _).mono ?_
 rintro e w2 ⟨rfl, hb2⟩
 obtain ⟨hc2, hf2⟩ := bcell hb2
 have HB2 := Lib.hid hb2
 have hz2_0 : w.heap.size < w2.heap.size := by (have := hb2.size; (try simp at this) <;> omega)
 have hz2_1 : w.heap.size + 1 < w2.heap.size := by (have := hb2.size; (try simp at this) <;> omega)
 have hz2_2 : w.heap.size + 1 + 1 < w2.heap.size := by (have := hb2.size; (try simp at this) <;> omega)
 clear hb2
 go_wp2_with fail
 refine (none_any _).mono ?_
 rintro e w3 ⟨rfl, hb3⟩
 obtain ⟨hc3, hf3⟩ := bcell hb3
 have HB3 := Lib.hid hb3
 have hz3_0 : w.heap.size < w3.heap.size := by (have := hb3.size; (try simp at this) <;> omega)
 have hz3_1 : w.heap.size + 1 < w3.heap.size := by (have := hb3.size; (try simp at this) <;> omega)
 have hz3_2 : w.heap.size + 1 + 1 < w3.heap.size := by (have := hb3.size; (try simp at this) <;> omega)
 clear hb3
 go_wp2
 refine bodyPost_ret (v := .agg #[.int .i64 0, .int .i64 (-1)]) (by simp [results, Tryd.results67, go_sem, hc1, hc2, hc3, hz1_2, hz2_2]) rfl ⟨rfl, ?_⟩
 (repeat (first | exact Below.refl _ _ | (with_reducible refine Below.st ?_ (by simp <;> omega)) | (with_reducible refine Below.al ?_ _) | (with_reducible refine Below.call ?_ HB1.out) | (with_reducible refine Below.call ?_ HB2.out) | (with_reducible refine Below.call ?_ HB3.out) | (with_reducible refine Below.call ?_ HB4.out) ))
set_option maxHeartbeats 1000000 in
theorem hull_ny (a b c d : Int) (h : b < a) (k : ¬ d < c) (w : World) : Calls Tryd.prog 67 #[.agg #[.int .i64 a, .int .i64 b], .agg #[.int .i64 c, .int .i64 d]] w fun e w' => e = .returned (.agg #[.int .i64 c, .int .i64 d]) ∧ Below w.heap.size w w' := by
 go_enter Tryd.func67, Tryd.ntmps67
 go_wp2_with fail
 refine (empty_any _ _ _).mono ?_
 rintro e w1 ⟨rfl, hb1⟩
 obtain ⟨hc1, hf1⟩ := bcell hb1
 have HB1 := Lib.hid hb1
 have hz1_0 : w.heap.size < w1.heap.size := by (have := hb1.size; (try simp at this) <;> omega)
 have hz1_1 : w.heap.size + 1 < w1.heap.size := by (have := hb1.size; (try simp at this) <;> omega)
 have hz1_2 : w.heap.size + 1 + 1 < w1.heap.size := by (have := hb1.size; (try simp at this) <;> omega)
 clear hb1
 go_wp2_with fail
 refine (empty_any _ _ _).mono ?_
 rintro e w2 ⟨rfl, hb2⟩
 obtain ⟨hc2, hf2⟩ := bcell hb2
 have HB2 := Lib.hid hb2
 have hz2_0 : w.heap.size < w2.heap.size := by (have := hb2.size; (try simp at this) <;> omega)
 have hz2_1 : w.heap.size + 1 < w2.heap.size := by (have := hb2.size; (try simp at this) <;> omega)
 have hz2_2 : w.heap.size + 1 + 1 < w2.heap.size := by (have := hb2.size; (try simp at this) <;> omega)
 clear hb2
 go_wp2_with fail
 refine (empty_any _ _ _).mono ?_
 rintro e w3 ⟨rfl, hb3⟩
 obtain ⟨hc3, hf3⟩ := bcell hb3
 have HB3 := Lib.hid hb3
 have hz3_0 : w.heap.size < w3.heap.size := by (have := hb3.size; (try simp at this) <;> omega)
 have hz3_1 : w.heap.size + 1 < w3.heap.size := by (have := hb3.size; (try simp at this) <;> omega)
 have hz3_2 : w.heap.size + 1 + 1 < w3.heap.size := by (have := hb3.size; (try simp at this) <;> omega)
 clear hb3
 go_wp2
 refine bodyPost_ret (v := .agg #[.int .i64 c, .int .i64 d]) (by simp [results, Tryd.results67, go_sem, hc1, hc2, hc3, hz1_2, hz2_2]) rfl ⟨rfl, ?_⟩
 (repeat (first | exact Below.refl _ _ | (with_reducible refine Below.st ?_ (by simp <;> omega)) | (with_reducible refine Below.al ?_ _) | (with_reducible refine Below.call ?_ HB1.out) | (with_reducible refine Below.call ?_ HB2.out) | (with_reducible refine Below.call ?_ HB3.out) | (with_reducible refine Below.call ?_ HB4.out) ))
set_option maxHeartbeats 1000000 in
theorem hull_yn (a b c d : Int) (h : ¬ b < a) (k : d < c) (w : World) : Calls Tryd.prog 67 #[.agg #[.int .i64 a, .int .i64 b], .agg #[.int .i64 c, .int .i64 d]] w fun e w' => e = .returned (.agg #[.int .i64 a, .int .i64 b]) ∧ Below w.heap.size w w' := by
 go_enter Tryd.func67, Tryd.ntmps67
 go_wp2_with fail
 refine (empty_any _ _ _).mono ?_
 rintro e w1 ⟨rfl, hb1⟩
 obtain ⟨hc1, hf1⟩ := bcell hb1
 have HB1 := Lib.hid hb1
 have hz1_0 : w.heap.size < w1.heap.size := by (have := hb1.size; (try simp at this) <;> omega)
 have hz1_1 : w.heap.size + 1 < w1.heap.size := by (have := hb1.size; (try simp at this) <;> omega)
 have hz1_2 : w.heap.size + 1 + 1 < w1.heap.size := by (have := hb1.size; (try simp at this) <;> omega)
 clear hb1
 go_wp2_with fail
 refine (empty_any _ _ _).mono ?_
 rintro e w2 ⟨rfl, hb2⟩
 obtain ⟨hc2, hf2⟩ := bcell hb2
 have HB2 := Lib.hid hb2
 have hz2_0 : w.heap.size < w2.heap.size := by (have := hb2.size; (try simp at this) <;> omega)
 have hz2_1 : w.heap.size + 1 < w2.heap.size := by (have := hb2.size; (try simp at this) <;> omega)
 have hz2_2 : w.heap.size + 1 + 1 < w2.heap.size := by (have := hb2.size; (try simp at this) <;> omega)
 clear hb2
 go_wp2_with fail
 refine (empty_any _ _ _).mono ?_
 rintro e w3 ⟨rfl, hb3⟩
 obtain ⟨hc3, hf3⟩ := bcell hb3
 have HB3 := Lib.hid hb3
 have hz3_0 : w.heap.size < w3.heap.size := by (have := hb3.size; (try simp at this) <;> omega)
 have hz3_1 : w.heap.size + 1 < w3.heap.size := by (have := hb3.size; (try simp at this) <;> omega)
 have hz3_2 : w.heap.size + 1 + 1 < w3.heap.size := by (have := hb3.size; (try simp at this) <;> omega)
 clear hb3
 go_wp2
 refine bodyPost_ret (v := .agg #[.int .i64 a, .int .i64 b]) (by simp [results, Tryd.results67, go_sem, hc1, hc2, hc3, hz1_2, hz2_2]) rfl ⟨rfl, ?_⟩
 (repeat (first | exact Below.refl _ _ | (with_reducible refine Below.st ?_ (by simp <;> omega)) | (with_reducible refine Below.al ?_ _) | (with_reducible refine Below.call ?_ HB1.out) | (with_reducible refine Below.call ?_ HB2.out) | (with_reducible refine Below.call ?_ HB3.out) | (with_reducible refine Below.call ?_ HB4.out) ))
set_option maxHeartbeats 1000000 in
theorem hull_yy (a b c d : Int) (h : ¬ b < a) (k : ¬ d < c) (w : World) : Calls Tryd.prog 67 #[.agg #[.int .i64 a, .int .i64 b], .agg #[.int .i64 c, .int .i64 d]] w fun e w' => e = .returned (.agg #[.int .i64 (min a c), .int .i64 (max b d)]) ∧ Below w.heap.size w w' := by
 by_cases ha : a ≤ c <;> by_cases hd : d ≤ b
 all_goals
  go_enter Tryd.func67, Tryd.ntmps67
  go_wp2_with fail
  refine (empty_any _ _ _).mono ?_
  rintro e w1 ⟨rfl, hb1⟩
  obtain ⟨hc1, hf1⟩ := bcell hb1
  have HB1 := Lib.hid hb1
  have hz1_0 : w.heap.size < w1.heap.size := by (have := hb1.size; (try simp at this) <;> omega)
  have hz1_1 : w.heap.size + 1 < w1.heap.size := by (have := hb1.size; (try simp at this) <;> omega)
  have hz1_2 : w.heap.size + 1 + 1 < w1.heap.size := by (have := hb1.size; (try simp at this) <;> omega)
  clear hb1
  go_wp2_with fail
  refine (empty_any _ _ _).mono ?_
  rintro e w2 ⟨rfl, hb2⟩
  obtain ⟨hc2, hf2⟩ := bcell hb2
  have HB2 := Lib.hid hb2
  have hz2_0 : w.heap.size < w2.heap.size := by (have := hb2.size; (try simp at this) <;> omega)
  have hz2_1 : w.heap.size + 1 < w2.heap.size := by (have := hb2.size; (try simp at this) <;> omega)
  have hz2_2 : w.heap.size + 1 + 1 < w2.heap.size := by (have := hb2.size; (try simp at this) <;> omega)
  clear hb2
  go_wp2_with fail
  refine (empty_any _ _ _).mono ?_
  rintro e w3 ⟨rfl, hb3⟩
  obtain ⟨hc3, hf3⟩ := bcell hb3
  have HB3 := Lib.hid hb3
  have hz3_0 : w.heap.size < w3.heap.size := by (have := hb3.size; (try simp at this) <;> omega)
  have hz3_1 : w.heap.size + 1 < w3.heap.size := by (have := hb3.size; (try simp at this) <;> omega)
  have hz3_2 : w.heap.size + 1 + 1 < w3.heap.size := by (have := hb3.size; (try simp at this) <;> omega)
  clear hb3
  go_wp2
  refine bodyPost_ret (v := .agg #[.int .i64 (min a c), .int .i64 (max b d)]) (by simp [results, Tryd.results67, go_sem, hc1, hc2, hc3, hz1_2, hz2_2]; omega) rfl ⟨rfl, ?_⟩
  (repeat (first | exact Below.refl _ _ | (with_reducible refine Below.st ?_ (by simp <;> omega)) | (with_reducible refine Below.al ?_ _) | (with_reducible refine Below.call ?_ HB1.out) | (with_reducible refine Below.call ?_ HB2.out) | (with_reducible refine Below.call ?_ HB3.out) | (with_reducible refine Below.call ?_ HB4.out) ))
theorem hull_any (p q : Int × Int) (w : World) : Calls Tryd.prog 67 #[.agg #[.int .i64 p.1, .int .i64 p.2], .agg #[.int .i64 q.1, .int .i64 q.2]] w fun e w' => e = .returned (.agg #[.int .i64 (hullV p q).1, .int .i64 (hullV p q).2]) ∧ Below w.heap.size w w' := by
 obtain ⟨a, b⟩ := p
 obtain ⟨c, d⟩ := q
 by_cases h : b < a <;> by_cases k : d < c
 ·rw [hullV_nn h k]; exact hull_nn a b c d h k w
 ·rw [hullV_ny h k]; exact hull_ny a b c d h k w
 ·rw [hullV_yn h k]; exact hull_yn a b c d h k w
 ·rw [hullV_yy h k]; exact hull_yy a b c d h k w
end Go.Proofs.YtmecohdedghiaaaDoor.Sp
namespace Go.Proofs.YtmecohdedghiaaaDoor.Sp
open Go.RowKit
end Go.Proofs.YtmecohdedghiaaaDoor.Sp
namespace Go.Proofs.YtmecohdedghiaaaDoor
open Go.RowKit
end Go.Proofs.YtmecohdedghiaaaDoor
namespace Go.Proofs.YtmecohdedghiaaaDoor.Two
open Go.RowKit
theorem snoc_ind {α : Type} {p : List α → Prop} (h0 : p []) (h1 : ∀ l c, p l → p (l ++ [c])) (l : List α) : p l := by
 suffices h : ∀ r : List α, p r.reverse by
  have := h l.reverse
  rwa [List.reverse_reverse] at this
 intro r
 induction r with
 | nil => exact h0
 | cons c r ih => rw [List.reverse_cons]; exact h1 _ _ ih
/-- A slice value whose numbers are a list, in memory below a block. -/
def IsL (w : World) (B : Nat) (v : Value) (xs : List Int) : Prop :=
 (∃ A cap, v = .slice A xs.length cap ∧ xs.length ≤ cap ∧ (0 < xs.length → ∃ b off, A = some ⟨b, off, none⟩ ∧ b < B ∧ ∀ i, i < xs.length → w.cell? ⟨b, off + i, none⟩ = some (.int .i64 (xs.getD i 0)))) ∧
  (∀ x ∈ xs, fits x) ∧ xs.length ≤ 9223372036854775807
theorem IsL.below {w w' : World} {B : Nat} {v : Value} {xs : List Int} (h : IsL w B v xs) (hb : Below B w w') : IsL w' B v xs := by
 obtain ⟨⟨A, cap, rfl, hc, hA⟩, hf, hl⟩ := h
 refine ⟨⟨A, cap, rfl, hc, fun h0 => ?_⟩, hf, hl⟩
 obtain ⟨b, off, rfl, hbB, hcell⟩ := hA h0
 exact ⟨b, off, rfl, hbB, fun i hi => (hb.cell (p := ⟨b, off + i, none⟩) hbB).trans (hcell i hi)⟩
theorem IsL.more {w : World} {B B' : Nat} {v : Value} {xs : List Int} (h : IsL w B v xs) (hB : B ≤ B') : IsL w B' v xs := by
 obtain ⟨⟨A, cap, rfl, hc, hA⟩, hf, hl⟩ := h
 refine ⟨⟨A, cap, rfl, hc, fun h0 => ?_⟩, hf, hl⟩
 obtain ⟨b, off, rfl, hbB, hcell⟩ := hA h0
 exact ⟨b, off, rfl, by omega, hcell⟩
theorem IsL.drewN {w : World} {B : Nat} {v : Value} {xs : List Int} (h : IsL w B v xs) (d : Nat) : IsL (w.drewN d) B v xs := h
theorem IsL.nil (w : World) (B : Nat) (A : Option Addr) (cap : Nat) : IsL w B (.slice A 0 cap) [] :=
 ⟨⟨A, cap, rfl, Nat.zero_le _, fun h => absurd h (by simp)⟩, fun x hx => by simp at hx, by simp⟩
theorem below_drewN {B : Nat} {a w : World} (h : Below B a w) (d : Nat) : Below B a (w.drewN d) := ⟨h.os, h.tape, h.output, h.size, h.block⟩
theorem getD_fits {xs : List Int} (h : ∀ x ∈ xs, fits x) (i : Nat) : fits (xs.getD i 0) := by
 rw [List.getD_eq_getElem?_getD]
 by_cases hi : i < xs.length
 ·rw [List.getElem?_eq_getElem hi]; exact h _ (List.getElem_mem hi)
 ·rw [List.getElem?_eq_none (by omega)]; decide
end Go.Proofs.YtmecohdedghiaaaDoor.Two
namespace Go.Proofs.YtmecohdedghiaaaDoor.Two
open Go.RowKit
/-- A whole number as a value. -/
def iv (x : Int) : Value := .int .i64 x
/-- A slice of the call's own that holds a list. -/
def Own (w : World) (base : Nat) (v : Value) (xs : List Int) : Prop := w.ownsRow base 3 1 v xs.length (xs.map iv) ∧ ∀ x ∈ xs, fits x
theorem int_info : (Tryd.prog.info? 3).map (fun i => (i.zero, i.size, i.bytes)) = some (some (.int .i64 0), 1, 8) := by kernel_rfl
theorem getD_map (xs : List Int) (i : Nat) (h : i < xs.length) : (xs.map iv)[i]? = some (.int .i64 (xs.getD i 0)) := by
 rw [List.getElem?_map, List.getD_eq_getElem?_getD, List.getElem?_eq_getElem h]
 rfl
theorem Own.isL {w : World} {base : Nat} {v : Value} {xs : List Int} (h : Own w base v xs) (hl : xs.length ≤ 9223372036854775807) : IsL w w.heap.size v xs := by
 obtain ⟨h, hf⟩ := h
 rcases h.2 with ⟨rfl, h0⟩ | ⟨g, cap, cur, rfl, hb, hg, hnc, _⟩
 ·obtain rfl : xs = [] := List.eq_nil_of_length_eq_zero h0
  exact IsL.nil _ _ _ _
 ·refine ⟨⟨_, cap, rfl, hnc, fun h0 => ⟨g, 0, rfl, (Array.getElem?_eq_some_iff.1 hg).1, fun i hi => ?_⟩⟩, hf, hl⟩
  rw [Nat.zero_add, h.cellAt i (by omega), getD_map xs i hi]
theorem Own.nil (w : World) (base : Nat) : Own w base (.slice none 0 0) [] := ⟨World.ownsRow_nil _ _ _ _, fun x hx => by simp at hx⟩
theorem Own.alloc {w : World} {base : Nat} {v : Value} {xs : List Int} (h : Own w base v xs) (o : Obj) : Own (w.alloc o) base v xs := ⟨h.1.alloc o, h.2⟩
theorem Own.drewN {w : World} {base : Nat} {v : Value} {xs : List Int} (h : Own w base v xs) (d : Nat) : Own (w.drewN d) base v xs := h
theorem Own.mono {w : World} {base base' : Nat} {v : Value} {xs : List Int} (h : Own w base v xs) (hb : base' ≤ base) : Own w base' v xs := ⟨h.1.mono hb, h.2⟩
theorem Own.kept {w w' : World} {row : Option Nat} {base : Nat} {v : Value} {xs : List Int} (h : Own w base v xs) (hg : w.grownBy w' row) (hne : v.ownBlock = none ∨ v.ownBlock ≠ row) : Own w' base v xs := ⟨h.1.kept hg hne, h.2⟩
theorem Own.lt {w : World} {base : Nat} {v : Value} {xs : List Int} (h : Own w base v xs) : ∀ k, v.ownBlock = some k → base ≤ k ∧ k < w.heap.size := h.1.lt
theorem Own.below {w w' : World} {base : Nat} {v : Value} {xs : List Int} (h : Own w base v xs) (hb : Below w.heap.size w w') : Own w' base v xs := by
 obtain ⟨⟨h1, h2⟩, hf⟩ := h
 refine ⟨⟨h1, ?_⟩, hf⟩
 rcases h2 with hn | ⟨g, cap, cur, rfl, hb2, hg, rest⟩
 ·exact .inl hn
 ·exact .inr ⟨g, cap, cur, rfl, hb2, (hb.block g (Array.getElem?_eq_some_iff.1 hg).1).trans hg, rest⟩
/-- One number, laid as a slice. -/
theorem IsL.lit (w : World) (x : Int) (hx : fits x) : IsL (w.alloc (.cells #[.int .i64 x] 3)) (w.heap.size + 1) (.slice (some ⟨w.heap.size, 0, none⟩) 1 1) [x] := by
 refine ⟨⟨_, 1, rfl, by simp, fun _ => ⟨w.heap.size, 0, rfl, by omega, fun i hi => ?_⟩⟩, fun y hy => by simp at hy; rw [hy]; exact hx, by simp⟩
 have : i = 0 := by simpa using hi
 subst this
 rw [cell_of_row _ w.heap.size _ _ _ (0, 0) (heap_alloc_new w _)]
 rfl
theorem oneCell_iv (xs : List Int) : ∀ u ∈ xs.map iv, u.oneCell' = true := by
 intro u hu
 obtain ⟨x, _, rfl⟩ := List.mem_map.1 hu
 rfl
theorem run_append_nothing (w : World) (base : Nat) (ty : TypeId) (v : Value) (xs : List Int) (h : Own w base v xs) (c : Nat) : (Builtin.append_ #[27, 27] ty #[v, .slice none 0 c]).run Tryd.prog w = .ok v w := by
 obtain ⟨i0, hi, hz0, hz1, hz2⟩ := info_parts int_info
 rcases h.1.2 with ⟨rfl, _⟩ | ⟨g, cap, cur, rfl, _, _, hnc, _⟩
 ·simp [Builtin.append_, run_underlying Tryd.underlying27, sizeOf, typeInfo, hi, Builtin.lenOf, Builtin.firstCells]
 ·simp [Builtin.append_, run_underlying Tryd.underlying27, sizeOf, typeInfo, hi, Builtin.lenOf, Builtin.firstCells, hnc, storeCells]
theorem run_app (w : World) (base B : Nat) (ty : TypeId) (v src : Value) (xs ys : List Int) (h : Own w base v xs) (hs : IsL w B src ys) (hl : xs.length + ys.length ≤ 1000000) (hb : base ≤ w.heap.size) :
  ∃ v' w', (Builtin.append_ #[27, 27] ty #[v, src]).run Tryd.prog w = .ok v' w' ∧ Own w' base v' (xs ++ ys) ∧ w.grownBy w' v.ownBlock ∧ (v'.ownBlock = v.ownBlock ∨ v'.ownBlock = some w.heap.size) := by
 obtain ⟨i0, hi, hz0, hz1, hz2⟩ := info_parts int_info
 obtain ⟨⟨A, cap, rfl, hc, hA⟩, hf, hll⟩ := hs
 have hfa : ∀ x ∈ xs ++ ys, fits x := fun x hx => by
  rcases List.mem_append.1 hx with hx | hx
  ·exact h.2 x hx
  ·exact hf x hx
 by_cases h0 : ys = []
 ·subst h0
  match A with
  | none => exact ⟨v, w, run_append_nothing w base ty v xs h cap, by simpa using h, World.grownBy.refl w _, .inl rfl⟩
  | some ad =>
   obtain ⟨v', w', hrun, h2, h3, _, h5⟩ := run_append_own_at (P := Tryd.prog) w base 27 ty 3 i0 (.int .i64 0) 1 8 Tryd.underlying27 hi hz0 hz1 hz2 rfl (by decide) v xs.length (xs.map iv) h.1 ad 0 cap [] rfl
    (fun j u hu => by simp at hu) (fun u hu => by simp at hu) (by unfold maxLen; simp at hl; omega) (by simp at hl; omega) hb
   exact ⟨v', w', hrun, ⟨by simpa using h2, hfa⟩, h3, h5⟩
 ·have hpos : 0 < ys.length := by
   rcases Nat.eq_zero_or_pos ys.length with h | h
   ·exact absurd (List.eq_nil_of_length_eq_zero h) h0
   ·exact h
  obtain ⟨b, off, rfl, hbB, hcell⟩ := hA hpos
  obtain ⟨v', w', hrun, h2, h3, _, h5⟩ := run_append_own_at (P := Tryd.prog) w base 27 ty 3 i0 (.int .i64 0) 1 8 Tryd.underlying27 hi hz0 hz1 hz2 rfl (by decide) v xs.length (xs.map iv) h.1 ⟨b, off, none⟩ ys.length cap (ys.map iv) (by simp)
   (fun j u hu => by
    have hj : j < ys.length := by
     have := (List.getElem?_eq_some_iff.1 hu).1
     simpa using this
    rw [getD_map ys j hj] at hu
    rw [Go.WideShapes.add_plain, hcell j hj]
    exact hu) (oneCell_iv ys) (by unfold maxLen; omega) (by omega) hb
  exact ⟨v', w', hrun, ⟨by rw [List.length_append, List.map_append]; exact h2, hfa⟩, h3, h5⟩
theorem wp_app {o : Oper} {a : Act} {K : Act → World → Prop} {Q : Exit → Act → World → Prop} (w : World) (s x : Operand)
  (ho : o.op = .call { callee := .builtin .append, args := #[s, x], argTypes := #[27, 27] }) (base B : Nat) (v src : Value) (xs ys : List Int) (hs : a.eval s = v) (hx : a.eval x = src)
  (h : Own w base v xs) (hy : IsL w B src ys) (hl : xs.length + ys.length ≤ 1000000) (hb : base ≤ w.heap.size)
  (hk : ∀ v' w', Own w' base v' (xs ++ ys) → w.grownBy w' v.ownBlock → (v'.ownBlock = v.ownBlock ∨ v'.ownBlock = some w.heap.size) → K (a.put o.dst v') w') : o.wp Tryd.prog a w K Q := by
 obtain ⟨v', w', hrun, h2, h3, h4⟩ := run_app w base B o.type v src xs ys h hy hl hb
 unfold Oper.wp execOp
 simp only [ho, resolve, invoke, builtin, Sem.run_bind, Sem.run_pure, Result.andThen_ok, List.map_toArray, List.map_cons, List.map_nil, hs, hx, hrun]
 exact hk v' w' h2 h3 h4
theorem wpList_app {ops : Array Oper} {rest : List Oper} {o : Oper} {a : Act} {Q : Exit → Act → World → Prop} (w : World) (hgd : o.guard = none) (s x : Operand)
  (ho : o.op = .call { callee := .builtin .append, args := #[s, x], argTypes := #[27, 27] }) (base B : Nat) (v src : Value) (xs ys : List Int) (hs : a.eval s = v) (hx : a.eval x = src)
  (h : Own w base v xs) (hy : IsL w B src ys) (hl : xs.length + ys.length ≤ 1000000) (hb : base ≤ w.heap.size)
  (hk : ∀ v' w', Own w' base v' (xs ++ ys) → w.grownBy w' v.ownBlock → (v'.ownBlock = v.ownBlock ∨ v'.ownBlock = some w.heap.size) → wpList Tryd.prog ops Q rest (a.put o.dst v') w') : wpList Tryd.prog ops Q (o :: rest) a w :=
 wpList_plain hgd fun _ hK => wp_app w s x ho base B v src xs ys hs hx h hy hl hb fun v' w' h2 h3 h4 => hK _ _ (hk v' w' h2 h3 h4)
end Go.Proofs.YtmecohdedghiaaaDoor.Two
namespace Go.Proofs.YtmecohdedghiaaaDoor.Two
/-- Does a list rise? -/
def Inc (l : List Int) : Prop := l.Pairwise (· < ·)
instance (l : List Int) : Decidable (Inc l) := inferInstanceAs (Decidable (List.Pairwise _ l))
/-- A number put into a set. -/
def put : List Int → Int → List Int
 | [], n => [n]
 | x :: r, n => if x < n then x :: put r n else if x = n then x :: r else n :: x :: r
/-- The set of a list. -/
def mk (l : List Int) : List Int := l.foldl put []
theorem inc_cons {x : Int} {r : List Int} : Inc (x :: r) ↔ (∀ y ∈ r, x < y) ∧ Inc r := List.pairwise_cons
theorem inc_nil : Inc [] := List.Pairwise.nil
theorem inc_append {a b : List Int} : Inc (a ++ b) ↔ Inc a ∧ Inc b ∧ ∀ x ∈ a, ∀ y ∈ b, x < y := List.pairwise_append
theorem inc_drop {a : List Int} (k : Nat) (h : Inc a) : Inc (a.drop k) := List.Pairwise.sublist (List.drop_sublist k a) h
theorem inc_snoc {a : List Int} {x : Int} (h : Inc a) (hx : ∀ y ∈ a, y < x) : Inc (a ++ [x]) := inc_append.2 ⟨h, List.pairwise_singleton _ _, fun y hy z hz => by simp at hz; rw [hz]; exact hx y hy⟩
theorem inc_ext : ∀ {a b : List Int}, Inc a → Inc b → (∀ x, x ∈ a ↔ x ∈ b) → a = b
 | [], [], _, _, _ => rfl
 | [], y :: s, _, _, h => absurd ((h y).2 (by simp)) (by simp)
 | x :: r, [], _, _, h => absurd ((h x).1 (by simp)) (by simp)
 | x :: r, y :: s, ha, hb, h => by
  obtain ⟨h1, h2⟩ := inc_cons.1 ha
  obtain ⟨h3, h4⟩ := inc_cons.1 hb
  have hxy : x = y := by
   have e1 := (h x).1 (by simp)
   have e2 := (h y).2 (by simp)
   rcases List.mem_cons.1 e1 with e1 | e1
   ·exact e1
   ·rcases List.mem_cons.1 e2 with e2 | e2
    ·exact e2.symm
    ·have := h1 y e2
     have := h3 x e1
     omega
  subst hxy
  rw [inc_ext h2 h4 (fun z => ?_)]
  constructor
  ·intro hz
   rcases List.mem_cons.1 ((h z).1 (by simp [hz])) with e | e
   ·have := h1 z hz; omega
   ·exact e
  ·intro hz
   rcases List.mem_cons.1 ((h z).2 (by simp [hz])) with e | e
   ·have := h3 z hz; omega
   ·exact e
theorem mem_put (s : List Int) (n x : Int) : x ∈ put s n ↔ x ∈ s ∨ x = n := by
 induction s with
 | nil => simp [put]
 | cons y r ih =>
  rw [put]
  split
  ·rw [List.mem_cons, List.mem_cons, ih, or_assoc]
  ·split
   ·rename_i h; subst h; simp; intro h; exact Or.inl h
   ·rw [List.mem_cons, or_comm]
theorem inc_put {s : List Int} (n : Int) (h : Inc s) : Inc (put s n) := by
 induction s with
 | nil => exact List.pairwise_singleton _ _
 | cons y r ih =>
  obtain ⟨h1, h2⟩ := inc_cons.1 h
  rw [put]
  split
  ·rename_i hy
   refine inc_cons.2 ⟨fun z hz => ?_, ih h2⟩
   rcases (mem_put r n z).1 hz with hz | hz
   ·exact h1 z hz
   ·omega
  ·split
   ·exact h
   ·refine inc_cons.2 ⟨fun z hz => ?_, h⟩
    rcases List.mem_cons.1 hz with hz | hz
    ·omega
    ·have := h1 z hz; omega
theorem foldl_put (l : List Int) : ∀ s : List Int, Inc s → Inc (l.foldl put s) ∧ ∀ x, x ∈ l.foldl put s ↔ x ∈ s ∨ x ∈ l := by
 induction l with
 | nil => intro s h; exact ⟨h, fun x => by simp⟩
 | cons y r ih =>
  intro s h
  obtain ⟨h1, h2⟩ := ih (put s y) (inc_put y h)
  refine ⟨h1, fun x => ?_⟩
  rw [List.foldl_cons, h2, mem_put, List.mem_cons, or_assoc]
theorem inc_mk (l : List Int) : Inc (mk l) := (foldl_put l [] inc_nil).1
theorem mem_mk (l : List Int) (x : Int) : x ∈ mk l ↔ x ∈ l := by rw [mk, (foldl_put l [] inc_nil).2]; simp
theorem mk_inc {l : List Int} (h : Inc l) : mk l = l := inc_ext (inc_mk l) h (mem_mk l)
theorem mk_of {s l : List Int} (h : Inc s) (hm : ∀ x, x ∈ s ↔ x ∈ l) : s = mk l := inc_ext h (inc_mk l) fun x => by rw [hm, mem_mk]
theorem mk_snoc (l : List Int) (x : Int) : mk (l ++ [x]) = put (mk l) x := by rw [mk, List.foldl_append]; rfl
theorem put_len_new (s : List Int) (n : Int) (h : n ∉ s) : (put s n).length = s.length + 1 := by
 induction s with
 | nil => rfl
 | cons y r ih =>
  rw [put]
  split
  ·rw [List.length_cons, ih (fun hh => h (by simp [hh])), List.length_cons]
  ·split
   ·rename_i hy; exact absurd hy.symm (fun e => h (by simp [e]))
   ·rfl
theorem put_old {s : List Int} (hs : Inc s) (n : Int) (h : n ∈ s) : put s n = s := inc_ext (inc_put n hs) hs fun x => by
 rw [mem_put]
 exact ⟨fun k => k.elim id (fun e => e ▸ h), Or.inl⟩
theorem mk_len_snoc (l : List Int) (x : Int) : (mk (l ++ [x])).length = (mk l).length + (if x ∈ l then 0 else 1) := by
 rw [mk_snoc]
 by_cases h : x ∈ l
 ·rw [put_old (inc_mk l) x ((mem_mk l x).2 h), if_pos h, Nat.add_zero]
 ·rw [put_len_new _ _ (fun k => h ((mem_mk l x).1 k)), if_neg h]
theorem mk_len_le (l : List Int) : (mk l).length ≤ l.length := by
 refine snoc_ind (p := fun l => (mk l).length ≤ l.length) (Nat.le_refl _) ?_ l
 intro l c ih
 rw [mk_len_snoc, List.length_append, List.length_cons, List.length_nil]
 split <;> omega
/-- The place of the first number that was there already. -/
def Tw (l : List Int) (t : Int) : Prop :=
 (t = -1 ∧ ∀ i, i < l.length → l.getD i 0 ∉ l.take i) ∨ (∃ i : Nat, i < l.length ∧ t = i ∧ l.getD i 0 ∈ l.take i ∧ ∀ j, j < i → l.getD j 0 ∉ l.take j)
theorem Tw.uniq {l : List Int} {t u : Int} (h : Tw l t) (k : Tw l u) : t = u := by
 rcases h with ⟨rfl, h⟩ | ⟨i, hi, rfl, h1, h2⟩ <;> rcases k with ⟨rfl, k⟩ | ⟨j, hj, rfl, k1, k2⟩
 ·rfl
 ·exact absurd k1 (h j hj)
 ·exact absurd h1 (k i hi)
 ·rcases Nat.lt_trichotomy i j with hh | hh | hh
  ·exact absurd h1 (k2 i hh)
  ·rw [hh]
  ·exact absurd k1 (h2 j hh)
theorem mk_len_all (l : List Int) : (mk l).length = l.length ↔ ∀ i, i < l.length → l.getD i 0 ∉ l.take i := by
 refine snoc_ind (p := fun l => (mk l).length = l.length ↔ ∀ i, i < l.length → l.getD i 0 ∉ l.take i) ?_ ?_ l
 ·simp [mk]
 ·intro l c ih
  have hle := mk_len_le l
  have hlast : (l ++ [c]).getD l.length 0 = c := by simp
  have htake : (l ++ [c]).take l.length = l := by simp
  rw [mk_len_snoc, List.length_append, List.length_cons, List.length_nil]
  constructor
  ·intro h i hi
   by_cases hc : c ∈ l
   ·rw [if_pos hc] at h; omega
   ·rw [if_neg hc] at h
    by_cases hil : i < l.length
    ·have := ih.1 (by omega) i hil
     rw [List.take_append_of_le_length (by omega)]
     rw [List.getD_eq_getElem?_getD, List.getElem?_append_left hil, ← List.getD_eq_getElem?_getD]
     exact this
    ·obtain rfl : i = l.length := by omega
     rw [hlast, htake]
     exact hc
  ·intro h
   have hc : c ∉ l := by
    have := h l.length (by omega)
    rwa [hlast, htake] at this
   have := ih.2 (fun i hi => by
    have := h i (by omega)
    rw [List.take_append_of_le_length (by omega), List.getD_eq_getElem?_getD, List.getElem?_append_left hi, ← List.getD_eq_getElem?_getD] at this
    exact this)
   rw [if_neg hc]
   omega
theorem Tw.len {l : List Int} {t : Int} (h : Tw l t) : decide ((mk l).length = l.length) = decide (t = -1) := by
 rw [decide_eq_decide, mk_len_all]
 rcases h with ⟨rfl, h⟩ | ⟨i, hi, rfl, h1, h2⟩
 ·exact ⟨fun _ => rfl, fun _ => h⟩
 ·exact ⟨fun k => absurd h1 (k i hi), fun k => by omega⟩
end Go.Proofs.YtmecohdedghiaaaDoor.Two
namespace Go.Proofs.YtmecohdedghiaaaDoor.Two
theorem takeS (l : List Int) (k : Nat) (h : k < l.length) : l.take (k + 1) = l.take k ++ [l.getD k 0] := by
 rw [List.take_succ_eq_append_getElem h, List.getD_eq_getElem?_getD, List.getElem?_eq_getElem h]
 rfl
theorem dropS (l : List Int) (k : Nat) (h : k < l.length) : l.drop k = l.getD k 0 :: l.drop (k + 1) := by
 rw [List.drop_eq_getElem_cons h, List.getD_eq_getElem?_getD, List.getElem?_eq_getElem h]
 rfl
theorem inc_after {l : List Int} (k : Nat) (h : k < l.length) (hi : Inc l) : ∀ y ∈ l.drop (k + 1), l.getD k 0 < y := by
 have h2 := inc_drop k hi
 rw [dropS l k h] at h2
 exact (inc_cons.1 h2).1
/-- What has been gathered of two lists, k of the one and t of the other passed. -/
structure OInv (a b : List Int) (k t : Nat) (all : List Int) : Prop where
 inc : Inc all
 mem : ∀ x, x ∈ all ↔ x ∈ a.take k ∨ x ∈ b.take t
 crossA : ∀ x ∈ all, ∀ y ∈ a.drop k, x < y
 crossB : ∀ x ∈ all, ∀ y ∈ b.drop t, x < y
 len : all.length ≤ k + t
/-- The same while the other list is gone along below n. -/
structure IInv (a b : List Int) (k : Nat) (n : Int) (t : Nat) (all : List Int) : Prop where
 inc : Inc all
 low : ∀ x ∈ all, x < n
 mem : ∀ x, (x ∈ all ∨ x = n) ↔ (x ∈ a.take k ∨ x ∈ b.take t) ∨ x = n
 crossB : ∀ x ∈ all, ∀ y ∈ b.drop t, x < y
 len : all.length ≤ k + t
theorem OInv.start (a b : List Int) : OInv a b 0 0 [] := ⟨inc_nil, fun x => by simp, fun x hx => by simp at hx, fun x hx => by simp at hx, by simp⟩
theorem OInv.enter {a b : List Int} {k t : Nat} {all : List Int} (h : OInv a b k t all) (hk : k < a.length) : IInv a b k (a.getD k 0) t all :=
 ⟨h.inc, fun x hx => h.crossA x hx _ (by rw [dropS a k hk]; simp), fun x => by rw [h.mem], h.crossB, h.len⟩
theorem IInv.less {a b : List Int} {k t : Nat} {n : Int} {all : List Int} (h : IInv a b k n t all) (hb : Inc b) (ht : t < b.length) (hx : b.getD t 0 < n) : IInv a b k n (t + 1) (all ++ [b.getD t 0]) := by
 have hd := dropS b t ht
 refine ⟨inc_snoc h.inc fun y hy => h.crossB y hy _ (by rw [hd]; simp), fun x hx2 => ?_, fun x => ?_, fun x hx2 y hy => ?_, by have := h.len; simp; omega⟩
 ·rcases List.mem_append.1 hx2 with hx2 | hx2
  ·exact h.low x hx2
  ·have : x = b.getD t 0 := by simpa using hx2
   omega
 ·have hm := h.mem x
  rw [takeS b t ht, List.mem_append, List.mem_append, List.mem_singleton]
  constructor
  ·rintro ((h1 | h1) | h1)
   ·rcases hm.1 (Or.inl h1) with (h2 | h2) | h2
    ·exact Or.inl (Or.inl h2)
    ·exact Or.inl (Or.inr (Or.inl h2))
    ·exact Or.inr h2
   ·exact Or.inl (Or.inr (Or.inr h1))
   ·exact Or.inr h1
  ·rintro ((h1 | h1 | h1) | h1)
   ·rcases hm.2 (Or.inl (Or.inl h1)) with h2 | h2
    ·exact Or.inl (Or.inl h2)
    ·exact Or.inr h2
   ·rcases hm.2 (Or.inl (Or.inr h1)) with h2 | h2
    ·exact Or.inl (Or.inl h2)
    ·exact Or.inr h2
   ·exact Or.inl (Or.inr h1)
   ·exact Or.inr h1
 ·rcases List.mem_append.1 hx2 with hx2 | hx2
  ·exact h.crossB x hx2 y (by rw [hd]; simp [hy])
  ·have : x = b.getD t 0 := by simpa using hx2
   rw [this]
   exact inc_after t ht hb y hy
theorem IInv.same {a b : List Int} {k t : Nat} {n : Int} {all : List Int} (h : IInv a b k n t all) (ht : t < b.length) (hx : b.getD t 0 = n) : IInv a b k n (t + 1) all := by
 have hd := dropS b t ht
 refine ⟨h.inc, h.low, fun x => ?_, fun x hx2 y hy => h.crossB x hx2 y (by rw [hd]; simp [hy]), by have := h.len; omega⟩
 rw [takeS b t ht, List.mem_append, List.mem_singleton, hx, h.mem]
 constructor
 ·rintro ((h1 | h1) | h1)
  ·exact Or.inl (Or.inl h1)
  ·exact Or.inl (Or.inr (Or.inl h1))
  ·exact Or.inr h1
 ·rintro ((h1 | h1 | h1) | h1)
  ·exact Or.inl (Or.inl h1)
  ·exact Or.inl (Or.inr h1)
  ·exact Or.inr h1
  ·exact Or.inr h1
theorem IInv.leave {a b : List Int} {k t : Nat} {all : List Int} (h : IInv a b k (a.getD k 0) t all) (ha : Inc a) (hb : Inc b) (hk : k < a.length) (hx : t < b.length → a.getD k 0 < b.getD t 0) : OInv a b (k + 1) t (all ++ [a.getD k 0]) := by
 refine ⟨inc_snoc h.inc h.low, fun x => ?_, fun x hx2 y hy => ?_, fun x hx2 y hy => ?_, by have := h.len; simp; omega⟩
 ·rw [takeS a k hk, List.mem_append, List.mem_append, List.mem_singleton, h.mem]
  constructor
  ·rintro ((h1 | h1) | h1)
   ·exact Or.inl (Or.inl h1)
   ·exact Or.inr h1
   ·exact Or.inl (Or.inr h1)
  ·rintro ((h1 | h1) | h1)
   ·exact Or.inl (Or.inl h1)
   ·exact Or.inr h1
   ·exact Or.inl (Or.inr h1)
 ·have h3 := inc_after k hk ha y hy
  rcases List.mem_append.1 hx2 with hx2 | hx2
  ·have := h.low x hx2
   omega
  ·have : x = a.getD k 0 := by simpa using hx2
   omega
 ·rcases List.mem_append.1 hx2 with hx2 | hx2
  ·exact h.crossB x hx2 y hy
  ·have e : x = a.getD k 0 := by simpa using hx2
   rw [e]
   have ht : t < b.length := by
    rcases Nat.lt_or_ge t b.length with h | h
    ·exact h
    ·rw [List.drop_eq_nil_of_le h] at hy
     simp at hy
   have := hx ht
   rw [dropS b t ht] at hy
   rcases List.mem_cons.1 hy with hy | hy
   ·omega
   ·have := inc_after t ht hb y hy
    omega
theorem OInv.done {a b : List Int} {t : Nat} {all : List Int} (h : OInv a b a.length t all) (hb : Inc b) : all ++ b.drop t = Go.Proofs.YtmecohdedghiaaaDoor.Two.mk (a ++ b) := by
 refine mk_of (inc_append.2 ⟨h.inc, inc_drop t hb, h.crossB⟩) fun x => ?_
 rw [List.mem_append, List.mem_append, h.mem, List.take_length, or_assoc, ← List.mem_append, List.take_append_drop]
/-- Two lists gone along, parted by what is in the other one. -/
structure PInv (a b : List Int) (k t : Nat) : Prop where
 low : ∀ y ∈ b.take t, ∀ x ∈ a.drop k, y < x
theorem PInv.start (a b : List Int) : PInv a b 0 0 := ⟨fun y hy => by simp at hy⟩
/-- The numbers passed are below n. -/
def Pass (b : List Int) (t : Nat) (n : Int) : Prop := ∀ y ∈ b.take t, y < n
theorem PInv.enter {a b : List Int} {k t : Nat} (h : PInv a b k t) (hk : k < a.length) : Pass b t (a.getD k 0) := fun y hy => h.low y hy _ (by rw [dropS a k hk]; simp)
theorem Pass.step {b : List Int} {t : Nat} {n : Int} (h : Pass b t n) (ht : t < b.length) (hx : b.getD t 0 < n) : Pass b (t + 1) n := fun y hy => by
 rw [takeS b t ht] at hy
 rcases List.mem_append.1 hy with hy | hy
 ·exact h y hy
 ·have : y = b.getD t 0 := by simpa using hy
  omega
theorem Pass.leave {a b : List Int} {k t : Nat} (h : Pass b t (a.getD k 0)) (ha : Inc a) (hk : k < a.length) : PInv a b (k + 1) t := ⟨fun y hy x hx => by
 have := h y hy
 have := inc_after k hk ha x hx
 omega⟩
end Go.Proofs.YtmecohdedghiaaaDoor.Two
