/- Stocks: a tip taken in a turn. -/
import Derived.Test.YtacjonncakhhmaaPc30
import Derived.Shelf.Abstract
namespace Go.Proofs.Ytacjonncakhhmaa
open Go.RowKit
set_option maxRecDepth 100000 in
set_option maxHeartbeats 4000000 in
theorem fill1_any (d : Dk) (t : Stk) (b' : Int) (V : World) (B D pi pn : Nat) (id n : Int) (hrg : rgS d t.ab = true) (hM : Mine V B D t) (hT : Tl V D d b') (hd : d.In V D) (hid : fits id) (hn : fits n) (hpi : V.cell? ⟨pi, 0, none⟩ = some (.int .i64 id)) (hpn : V.cell? ⟨pn, 0, none⟩ = some (.int .i64 n)) (hli : pi < D) (hln : pn < D) :
  Calls Try.prog 107 #[.pointer (some ⟨D, 0, none⟩), .pointer (some ⟨pi, 0, none⟩), .pointer (some ⟨pn, 0, none⟩)] V fun e V' => e = .returned (.int .i64 (foE d t.ab id (max n 0) (t.inn + n))) ∧
   (foE d t.ab id (max n 0) (t.inn + n) = 0 → ∃ t' : Stk, Mine V' B D t' ∧ t'.ab = foA t.ab b' id.toNat (max n 0) 4 (t.inn + n) ∧ t'.cl.length ≤ 100000 ∧ t'.ll.length ≤ 100000 ∧ t'.tl.length ≤ 100000) ∧ Below D V V' := by
 have hb0 : Below D V V.drew := Below.drew (Below.refl D V)
 have HF := Lib.hid (fun W (hb : Below D V W) (hM' : Mine W B D t) (hT' : Tl W D d b') => flow_do d t b' W B D 109 4 id n (max n 0) t.inn hrg hM' hT' (hd.below hb) hid (by simp) (by simp) (enters_of Try.func109 (by kernel_rfl) rfl) (fun x hx W' => Cel.pour_any x n hx hn W'))
 have HM := Lib.hid hM
 have HT := Lib.hid hT
 obtain ⟨e1, e2⟩ : V.drew.cell? ⟨pi, 0, none⟩ = some (.int .i64 id) ∧ V.drew.cell? ⟨pn, 0, none⟩ = some (.int .i64 n) := ⟨hpi, hpn⟩
 generalize foE d t.ab id (max n 0) (t.inn + n) = E at *
 have HL := Lib.hid (And.intro hli hln)
 clear hrg hM hT hd hid hn hli hln hb0
 go_enter Try.func107, Try.ntmps107
 go_upto_region 1 with fail
 clear hpi hpn
 refine wp_region_held_drew (S := fun w' => w'.cell? ⟨pi, 0, none⟩ = some (.int .i64 id) ∧ w'.cell? ⟨pn, 0, none⟩ = some (.int .i64 n)) (by kernel_rfl) ?_ (fun hHeld => ?_)
 ·exact ⟨e1, e2⟩
 clear e1 e2
 have bw := (Below.refl V.heap.size V).drew
 have M7 := Lib.hid (HM.out.below bw)
 have T7 := Lib.hid (HT.out.below bw)
 have B7 := Lib.hid (Below.drew (Below.refl D V))
 clear bw HM HT
 generalize V.drew = v0 at *
 refine wpAnyH_take (i := 0) (oi := ⟨some 5, _, _, _, _, _⟩) (v := ?_) rfl (by kernel_rfl) (by kernel_rfl) (by kernel_rfl) (fun _ _ _ h => h) (Or.inl ⟨by kernel_rfl, ?_⟩) (by assumption) ?_
 rotate_left 1
 ·((intro w hSw; (try dsimp only at hSw); go_simp) <;> (try with_reducible rfl))
 (try simp only [Act.put, List.setIfInBounds_toArray, List.set_cons_zero, List.set_cons_succ])
 refine wpAnyH_take (i := 1) (oi := ⟨some 6, _, _, _, _, _⟩) (v := ?_) rfl (by kernel_rfl) (by kernel_rfl) (by kernel_rfl) (fun _ _ _ h => h) (Or.inl ⟨by kernel_rfl, ?_⟩) (by assumption) ?_
 rotate_left 1
 ·((intro w hSw; (try dsimp only at hSw); go_simp) <;> (try with_reducible rfl))
 (try simp only [Act.put, List.setIfInBounds_toArray, List.set_cons_zero, List.set_cons_succ])
 refine wpAnyH_take (i := 2) (oi := ⟨some 7, _, _, _, _, _⟩) (v := ?_) rfl (by kernel_rfl) (by kernel_rfl) (by kernel_rfl) (fun _ _ _ h => h) (Or.inl ⟨by kernel_rfl, ?_⟩) (by assumption) ?_
 rotate_left 1
 ·((intro w hSw; (try dsimp only at hSw); go_simp) <;> (try with_reducible rfl))
 (try simp only [Act.put, List.setIfInBounds_toArray, List.set_cons_zero, List.set_cons_succ])
 refine wpAnyH_take (i := 3) (oi := ⟨some 8, _, _, _, _, _⟩) (v := ?_) rfl (by kernel_rfl) (by kernel_rfl) (by kernel_rfl) (fun _ _ _ h => h) (Or.inl ⟨by kernel_rfl, ?_⟩) (by assumption) ?_
 rotate_left 1
 ·((intro w hSw; (try dsimp only at hSw); go_simp) <;> (try with_reducible rfl))
 (try simp only [Act.put, List.setIfInBounds_toArray, List.set_cons_zero, List.set_cons_succ])
 refine wpAnyH_take (i := 4) (oi := ⟨some 9, _, _, _, _, _⟩) (v := ?_) rfl (by kernel_rfl) (by kernel_rfl) (by kernel_rfl) (fun _ _ _ h => h) (Or.inl ⟨by kernel_rfl, ?_⟩) (by assumption) ?_
 rotate_left 1
 ·((intro w hSw; (try dsimp only at hSw); go_simp) <;> (try with_reducible rfl))
 (try simp only [Act.put, List.setIfInBounds_toArray, List.set_cons_zero, List.set_cons_succ])
 refine wpAnyH_take (i := 5) (oi := ⟨some 10, _, _, _, _, _⟩) (v := ?_) rfl (by kernel_rfl) (by kernel_rfl) (by kernel_rfl) (fun _ _ _ h => h) (Or.inl ⟨by kernel_rfl, ?_⟩) (by assumption) ?_
 rotate_left 1
 ·((intro w hSw; (try dsimp only at hSw); go_simp) <;> (try with_reducible rfl))
 (try simp only [Act.put, List.setIfInBounds_toArray, List.set_cons_zero, List.set_cons_succ])
 refine wpAnyH_take (i := 6) (oi := ⟨some 11, _, _, _, _, _⟩) (v := ?_) rfl (by kernel_rfl) (by kernel_rfl) (by kernel_rfl) (fun _ _ _ h => h) (Or.inl ⟨by kernel_rfl, ?_⟩) (by assumption) ?_
 rotate_left 1
 ·((intro w hSw; (try dsimp only at hSw); go_simp) <;> (try with_reducible rfl))
 (try simp only [Act.put, List.setIfInBounds_toArray, List.set_cons_zero, List.set_cons_succ])
 refine wpAnyH_take (i := 7) (oi := ⟨some 12, _, _, _, _, _⟩) (v := ?_) rfl (by kernel_rfl) (by kernel_rfl) (by kernel_rfl) (fun _ _ _ h => h) (Or.inl ⟨by kernel_rfl, ?_⟩) (by assumption) ?_
 rotate_left 1
 ·((intro w hSw; (try dsimp only at hSw); go_simp) <;> (try with_reducible rfl))
 (try simp only [Act.put, List.setIfInBounds_toArray, List.set_cons_zero, List.set_cons_succ])
 refine wpAnyH_ready (rs := [8]) (by kernel_rfl) (by simp) ?_
 refine AllReadyH.cons (o := ⟨some 13, _, _, _, _, _⟩) rfl (fun K hK => ?_) AllReadyH.nil
 go_simp
 refine (HF.out v0 B7.out M7.out T7.out).mono ?_
 rintro e v1 ⟨rfl, hres, hb⟩
 have HR := Lib.hid hres
 have B8 := Lib.hid (B7.out.trans hb)
 obtain ⟨f1, f2⟩ := hHeld
 have hH := And.intro ((hb.cell (p := ⟨pi, 0, none⟩) HL.out.1).trans f1) ((hb.cell (p := ⟨pn, 0, none⟩) HL.out.2).trans f2)
 clear f1 f2 hres hb M7 T7 B7
 go_wp2_with fail
 refine hK.out _ _ hH (fun hHeld => ?_)
 clear hK K
 clear hH
 (try simp only [Act.put, List.setIfInBounds_toArray, List.set_cons_zero, List.set_cons_succ])
 refine wpAnyH_take (i := 9) (oi := ⟨some 4, _, _, _, _, _⟩) (v := ?_) rfl (by kernel_rfl) (by kernel_rfl) (by kernel_rfl) (fun _ _ _ h => h) (Or.inl ⟨by kernel_rfl, ?_⟩) (by assumption) ?_
 rotate_left 1
 ·((intro w hSw; (try dsimp only at hSw); go_simp) <;> (try with_reducible rfl))
 (try simp only [Act.put, List.setIfInBounds_toArray, List.set_cons_zero, List.set_cons_succ])
 refine wpAnyH_done (by kernel_rfl) ?_ _
 clear hHeld
 go_wp2
 refine bodyPost_ret (v := .int .i64 E) ?_ rfl ⟨rfl, HR.out, B8.out⟩
 simp [results, Try.results107, go_sem]
set_option maxRecDepth 100000 in
set_option maxHeartbeats 4000000 in
theorem waste1_any (d : Dk) (t : Stk) (b' : Int) (V : World) (B D pi pn : Nat) (id n : Int) (hrg : rgS d t.ab = true) (hM : Mine V B D t) (hT : Tl V D d b') (hd : d.In V D) (hid : fits id) (hn : fits n) (hpi : V.cell? ⟨pi, 0, none⟩ = some (.int .i64 id)) (hpn : V.cell? ⟨pn, 0, none⟩ = some (.int .i64 n)) (hli : pi < D) (hln : pn < D) :
  Calls Try.prog 110 #[.pointer (some ⟨D, 0, none⟩), .pointer (some ⟨pi, 0, none⟩), .pointer (some ⟨pn, 0, none⟩)] V fun e V' => e = .returned (.int .i64 (foE d t.ab id (-(max n 0)) (t.out + n))) ∧
   (foE d t.ab id (-(max n 0)) (t.out + n) = 0 → ∃ t' : Stk, Mine V' B D t' ∧ t'.ab = foA t.ab b' id.toNat (-(max n 0)) 5 (t.out + n) ∧ t'.cl.length ≤ 100000 ∧ t'.ll.length ≤ 100000 ∧ t'.tl.length ≤ 100000) ∧ Below D V V' := by
 have hb0 : Below D V V.drew := Below.drew (Below.refl D V)
 have HF := Lib.hid (fun W (hb : Below D V W) (hM' : Mine W B D t) (hT' : Tl W D d b') => flow_do d t b' W B D 111 5 id n (-(max n 0)) t.out hrg hM' hT' (hd.below hb) hid (by simp) (by simp) (enters_of Try.func111 (by kernel_rfl) rfl) (fun x hx W' => Cel.draw_any x n hx hn W'))
 have HM := Lib.hid hM
 have HT := Lib.hid hT
 obtain ⟨e1, e2⟩ : V.drew.cell? ⟨pi, 0, none⟩ = some (.int .i64 id) ∧ V.drew.cell? ⟨pn, 0, none⟩ = some (.int .i64 n) := ⟨hpi, hpn⟩
 generalize foE d t.ab id (-(max n 0)) (t.out + n) = E at *
 have HL := Lib.hid (And.intro hli hln)
 clear hrg hM hT hd hid hn hli hln hb0
 go_enter Try.func110, Try.ntmps110
 go_upto_region 1 with fail
 clear hpi hpn
 refine wp_region_held_drew (S := fun w' => w'.cell? ⟨pi, 0, none⟩ = some (.int .i64 id) ∧ w'.cell? ⟨pn, 0, none⟩ = some (.int .i64 n)) (by kernel_rfl) ?_ (fun hHeld => ?_)
 ·exact ⟨e1, e2⟩
 clear e1 e2
 have bw := (Below.refl V.heap.size V).drew
 have M7 := Lib.hid (HM.out.below bw)
 have T7 := Lib.hid (HT.out.below bw)
 have B7 := Lib.hid (Below.drew (Below.refl D V))
 clear bw HM HT
 generalize V.drew = v0 at *
 refine wpAnyH_take (i := 0) (oi := ⟨some 5, _, _, _, _, _⟩) (v := ?_) rfl (by kernel_rfl) (by kernel_rfl) (by kernel_rfl) (fun _ _ _ h => h) (Or.inl ⟨by kernel_rfl, ?_⟩) (by assumption) ?_
 rotate_left 1
 ·((intro w hSw; (try dsimp only at hSw); go_simp) <;> (try with_reducible rfl))
 (try simp only [Act.put, List.setIfInBounds_toArray, List.set_cons_zero, List.set_cons_succ])
 refine wpAnyH_take (i := 1) (oi := ⟨some 6, _, _, _, _, _⟩) (v := ?_) rfl (by kernel_rfl) (by kernel_rfl) (by kernel_rfl) (fun _ _ _ h => h) (Or.inl ⟨by kernel_rfl, ?_⟩) (by assumption) ?_
 rotate_left 1
 ·((intro w hSw; (try dsimp only at hSw); go_simp) <;> (try with_reducible rfl))
 (try simp only [Act.put, List.setIfInBounds_toArray, List.set_cons_zero, List.set_cons_succ])
 refine wpAnyH_take (i := 2) (oi := ⟨some 7, _, _, _, _, _⟩) (v := ?_) rfl (by kernel_rfl) (by kernel_rfl) (by kernel_rfl) (fun _ _ _ h => h) (Or.inl ⟨by kernel_rfl, ?_⟩) (by assumption) ?_
 rotate_left 1
 ·((intro w hSw; (try dsimp only at hSw); go_simp) <;> (try with_reducible rfl))
 (try simp only [Act.put, List.setIfInBounds_toArray, List.set_cons_zero, List.set_cons_succ])
 refine wpAnyH_take (i := 3) (oi := ⟨some 8, _, _, _, _, _⟩) (v := ?_) rfl (by kernel_rfl) (by kernel_rfl) (by kernel_rfl) (fun _ _ _ h => h) (Or.inl ⟨by kernel_rfl, ?_⟩) (by assumption) ?_
 rotate_left 1
 ·((intro w hSw; (try dsimp only at hSw); go_simp) <;> (try with_reducible rfl))
 (try simp only [Act.put, List.setIfInBounds_toArray, List.set_cons_zero, List.set_cons_succ])
 refine wpAnyH_take (i := 4) (oi := ⟨some 9, _, _, _, _, _⟩) (v := ?_) rfl (by kernel_rfl) (by kernel_rfl) (by kernel_rfl) (fun _ _ _ h => h) (Or.inl ⟨by kernel_rfl, ?_⟩) (by assumption) ?_
 rotate_left 1
 ·((intro w hSw; (try dsimp only at hSw); go_simp) <;> (try with_reducible rfl))
 (try simp only [Act.put, List.setIfInBounds_toArray, List.set_cons_zero, List.set_cons_succ])
 refine wpAnyH_take (i := 5) (oi := ⟨some 10, _, _, _, _, _⟩) (v := ?_) rfl (by kernel_rfl) (by kernel_rfl) (by kernel_rfl) (fun _ _ _ h => h) (Or.inl ⟨by kernel_rfl, ?_⟩) (by assumption) ?_
 rotate_left 1
 ·((intro w hSw; (try dsimp only at hSw); go_simp) <;> (try with_reducible rfl))
 (try simp only [Act.put, List.setIfInBounds_toArray, List.set_cons_zero, List.set_cons_succ])
 refine wpAnyH_take (i := 6) (oi := ⟨some 11, _, _, _, _, _⟩) (v := ?_) rfl (by kernel_rfl) (by kernel_rfl) (by kernel_rfl) (fun _ _ _ h => h) (Or.inl ⟨by kernel_rfl, ?_⟩) (by assumption) ?_
 rotate_left 1
 ·((intro w hSw; (try dsimp only at hSw); go_simp) <;> (try with_reducible rfl))
 (try simp only [Act.put, List.setIfInBounds_toArray, List.set_cons_zero, List.set_cons_succ])
 refine wpAnyH_take (i := 7) (oi := ⟨some 12, _, _, _, _, _⟩) (v := ?_) rfl (by kernel_rfl) (by kernel_rfl) (by kernel_rfl) (fun _ _ _ h => h) (Or.inl ⟨by kernel_rfl, ?_⟩) (by assumption) ?_
 rotate_left 1
 ·((intro w hSw; (try dsimp only at hSw); go_simp) <;> (try with_reducible rfl))
 (try simp only [Act.put, List.setIfInBounds_toArray, List.set_cons_zero, List.set_cons_succ])
 refine wpAnyH_ready (rs := [8]) (by kernel_rfl) (by simp) ?_
 refine AllReadyH.cons (o := ⟨some 13, _, _, _, _, _⟩) rfl (fun K hK => ?_) AllReadyH.nil
 go_simp
 refine (HF.out v0 B7.out M7.out T7.out).mono ?_
 rintro e v1 ⟨rfl, hres, hb⟩
 have HR := Lib.hid hres
 have B8 := Lib.hid (B7.out.trans hb)
 obtain ⟨f1, f2⟩ := hHeld
 have hH := And.intro ((hb.cell (p := ⟨pi, 0, none⟩) HL.out.1).trans f1) ((hb.cell (p := ⟨pn, 0, none⟩) HL.out.2).trans f2)
 clear f1 f2 hres hb M7 T7 B7
 go_wp2_with fail
 refine hK.out _ _ hH (fun hHeld => ?_)
 clear hK K
 clear hH
 (try simp only [Act.put, List.setIfInBounds_toArray, List.set_cons_zero, List.set_cons_succ])
 refine wpAnyH_take (i := 9) (oi := ⟨some 4, _, _, _, _, _⟩) (v := ?_) rfl (by kernel_rfl) (by kernel_rfl) (by kernel_rfl) (fun _ _ _ h => h) (Or.inl ⟨by kernel_rfl, ?_⟩) (by assumption) ?_
 rotate_left 1
 ·((intro w hSw; (try dsimp only at hSw); go_simp) <;> (try with_reducible rfl))
 (try simp only [Act.put, List.setIfInBounds_toArray, List.set_cons_zero, List.set_cons_succ])
 refine wpAnyH_done (by kernel_rfl) ?_ _
 clear hHeld
 go_wp2
 refine bodyPost_ret (v := .int .i64 E) ?_ rfl ⟨rfl, HR.out, B8.out⟩
 simp [results, Try.results110, go_sem]
end Go.Proofs.Ytacjonncakhhmaa
namespace Go.Proofs.Ytacjonncakhhmaa
open Go.RowKit
--CUTW
end Go.Proofs.Ytacjonncakhhmaa
namespace Go.Proofs.Ytacjonncakhhmaa
open Go.RowKit
/-- The first tip in an arm's hand, if one is. -/
def hdF (a : Ab) (b' : Int) : Int × Bool := Tp.fstV (Tp.hdP a.t b' 0) a.t.length
theorem hdF_at (a : Ab) (b' : Int) (h : (hdF a b').2 = true) : ∃ k : Nat, (hdF a b').1 = k ∧ k < a.t.length := by
 unfold hdF Tp.fstV at h ⊢
 cases e : (List.range a.t.length).find? (Tp.hdP a.t b' 0) with
 | none => rw [e] at h; cases h
 | some i => exact ⟨i, rfl, List.mem_range.1 (List.mem_of_find?_eq_some e)⟩
/-- Which tip an id is. -/
def tiK (a : Ab) (id : Int) : Nat := (id - a.c.length).toNat
noncomputable def taE (d : Dk) (a : Ab) (b' id : Int) : Int := if isP d 2 id = true then (if (hdF a b').2 = true then 131 else Tp.tkE (a.t.getD (tiK a id) (0, 0)).1 (a.t.getD (tiK a id) (0, 0)).2 b') else 3
def taA (a : Ab) (b' id : Int) : Ab := { a with t := a.t.set (tiK a id) (Tp.tkV (a.t.getD (tiK a id) (0, 0)).1 (a.t.getD (tiK a id) (0, 0)).2 b') }
def drE (a : Ab) (b' : Int) : Int := if (hdF a b').2 = true then Tp.dpE (a.t.getD (hdF a b').1.toNat (0, 0)).1 (a.t.getD (hdF a b').1.toNat (0, 0)).2 b' else 131
def drA (a : Ab) (b' : Int) : Ab := { a with t := a.t.set (hdF a b').1.toNat (Tp.dpV (a.t.getD (hdF a b').1.toNat (0, 0)).1 (a.t.getD (hdF a b').1.toNat (0, 0)).2 b') }
theorem tkV_fit (x y b' : Int) (hb : fits b') : fits (Tp.tkV x y b').1 ∧ fits (Tp.tkV x y b').2 := by
 unfold Tp.tkV
 split
 ·exact ⟨by show fits 2; decide, hb⟩
 ·exact ⟨by decide, by decide⟩
theorem dpV_fit (x y b' : Int) : fits (Tp.dpV x y b').1 ∧ fits (Tp.dpV x y b').2 := by
 unfold Tp.dpV
 split
 ·exact ⟨by decide, by decide⟩
 ·exact ⟨by decide, by decide⟩
set_option maxRecDepth 100000 in
set_option maxHeartbeats 4000000 in
theorem take1_any (d : Dk) (t : Stk) (b' : Int) (V : World) (B D pd pi pb : Nat) (id : Int) (hrg : rgS d t.ab = true) (hM : Mine V B D t) (hT : Tl V D d b') (hd : d.In V D) (hid : fits id) (hb' : fits b') (hpd : DkAt V pd d) (hpi : V.cell? ⟨pi, 0, none⟩ = some (.int .i64 id)) (hpb : V.cell? ⟨pb, 0, none⟩ = some (.int .i64 b')) (hli : pi < D) :
  Calls Try.prog 83 #[.pointer (some ⟨D, 0, none⟩), .pointer (some ⟨pd, 0, none⟩), .pointer (some ⟨pi, 0, none⟩), .pointer (some ⟨pb, 0, none⟩)] V fun e V' => e = .returned (.int .i64 (taE d t.ab b' id)) ∧
   (taE d t.ab b' id = 0 → ∃ t' : Stk, Mine V' B D t' ∧ t'.ab = taA t.ab b' id ∧ t'.cl.length ≤ 100000 ∧ t'.ll.length ≤ 100000 ∧ t'.tl.length ≤ 100000) ∧ Below D V V' := by
 have hab := rg_ab d t.ab hrg
 have hlens := rg_lens d t hrg
 have hdc := hab.2.2.2.1
 have r5 := hab.2.2.2.2.1
 have r7 := hab.2.2.2.2.2.2
 have l1 := hlens.1
 have l2 := hlens.2.1
 have l3 := hlens.2.2.1
 have hln : t.cl.length = wellN d := r5
 have hlt : t.tl.length = tipN d := r7
 have HDL := Lib.hid (show D < V.heap.size from hT.2.2.2.2.2)
 have HL := Lib.hid (And.intro l1 (And.intro l2 l3))
 have HM := Lib.hid hM
 have HT := Lib.hid hT
 have HIP := Lib.hid (isPart_any d 2 id hid V (hd.more (Nat.le_of_lt HDL.out)))
 have HBX := Lib.hid (And.intro hpi hpb)
 have HE := Lib.hid (show taE d t.ab b' id = (if isP d 2 id = true then (if (hdF t.ab b').2 = true then 131 else Tp.tkE (t.tl.getD (tiK t.ab id) (0, 0)).1 (t.tl.getD (tiK t.ab id) (0, 0)).2 b') else 3) from rfl)
 have HPI := Lib.hid (isP_eq d hdc id).2
 generalize taE d t.ab b' id = E at *
 obtain ⟨d0, d1, d2, d3, _⟩ := hpd
 by_cases hP : isP d 2 id = true
 case neg =>
  have hEE : E = 3 := by rw [HE.out, if_neg hP]
  subst hEE
  have hP : isP d 2 id = false := by simpa using hP
  rw [hP] at HIP
  clear hrg hM hT hd hid hb' hli hpb l1 l2 l3 r5 r7 hln hlt hab hlens hdc
  go_enter Try.func83, Try.ntmps83
  go_wp2_with fail
  refine HIP.out.mono ?_
  rintro e w1 ⟨rfl, hb1⟩
  have HB1 := Lib.hid (hb1.mono (Nat.le_of_lt HDL.out))
  clear hb1
  go_wp2
  refine bodyPost_ret (v := .int .i64 3) ?_ rfl ⟨rfl, fun h => absurd h (by decide), HB1.out⟩
  simp [results, Try.results83, go_sem]
 rw [if_pos hP] at HE
 have hin : (wellN d : Int) ≤ id ∧ id < wellN d + tipN d := by
  have h := HPI.out
  rw [hP] at h
  exact of_decide_eq_true h.symm
 obtain ⟨k, hk⟩ : ∃ k, tiK t.ab id = k := ⟨_, rfl⟩
 have hkk : id - (t.cl.length : Int) = k := by
  have e : tiK t.ab id = (id - (t.cl.length : Int)).toNat := rfl
  omega
 have hkl : k < t.tl.length := by omega
 have HK := Lib.hid (And.intro hk hkl)
 have HKK := Lib.hid (show IntKind.i64.wrap (id - (t.cl.length : Int)) = (k : Int) by rw [wrap_fits _ (by rw [hkk]; unfold fits; omega)]; exact hkk)
 have HV := Lib.hid (tkV_fit (t.tl.getD k (0, 0)).1 (t.tl.getD k (0, 0)).2 b' hb')
 rw [hk] at HE
 have HTA := Lib.hid (show taA t.ab b' id = { t.ab with t := t.tl.set k (Tp.tkV (t.tl.getD k (0, 0)).1 (t.tl.getD k (0, 0)).2 b') } by unfold taA; rw [hk]; rfl)
 have HLB := Lib.hid hli
 rw [hP] at HIP
 have HHF := Lib.hid (show Tp.fstV (Tp.hdP t.tl b' 0) t.tl.length = hdF t.ab b' from rfl)
 obtain ⟨⟨f1, f2⟩, hf⟩ : ∃ x, hdF t.ab b' = x := ⟨_, rfl⟩
 rw [hf] at HE HHF
 dsimp only at HE
 clear hrg hM hT hd hid hb' hli l1 l2 l3 r5 r7 hln hlt hab hlens hdc hk hkk hkl hin hf
 go_enter Try.func83, Try.ntmps83
 go_wp2_with fail
 refine HIP.out.mono ?_
 rintro e w1 ⟨rfl, hb1⟩
 have HB1 := Lib.hid (hb1.mono (Nat.le_of_lt HDL.out))
 have M1 := Lib.hid (HM.out.below hb1)
 have T1 := Lib.hid (HT.out.below hb1)
 have X1 := Lib.hid (And.intro (keep_cell hb1 HBX.out.1) (keep_cell hb1 HBX.out.2))
 clear hb1 d0 d1 d2 d3 hpi hpb
 go_upto_region 3 with fail
 --CUT1
 obtain ⟨e1, e2⟩ : w1.drew.cell? ⟨D, 2, none⟩ = some (.slice t.tA t.tl.length t.tc) ∧ w1.drew.cell? ⟨pb, 0, none⟩ = some (.int .i64 b') := ⟨M1.out.at'.2.2.1, X1.out.2⟩
 refine wp_region_held_drew (S := fun w' => w'.cell? ⟨D, 2, none⟩ = some (.slice t.tA t.tl.length t.tc) ∧ w'.cell? ⟨pb, 0, none⟩ = some (.int .i64 b')) (by kernel_rfl) ?_ (fun hHeld => ?_)
 ·exact ⟨e1, e2⟩
 clear e1 e2
 have bw := (Below.refl w1.heap.size w1).drew
 have M2 := Lib.hid (M1.out.below bw)
 have T2 := Lib.hid (T1.out.below bw)
 have X2 := Lib.hid (And.intro (keep_cell bw X1.out.1) (keep_cell bw X1.out.2))
 have HB2 := Lib.hid (Below.drew HB1.out)
 clear bw M1 T1 X1 HB1
 generalize w1.drew = w2 at *
 refine wpAnyH_take (i := 0) (oi := ⟨some 13, _, _, _, _, _⟩) (v := ?_) rfl (by kernel_rfl) (by kernel_rfl) (by kernel_rfl) (fun _ _ _ h => h) (Or.inl ⟨by kernel_rfl, ?_⟩) (by assumption) ?_
 rotate_left 1
 ·((intro w hSw; (try dsimp only at hSw); go_simp) <;> (try with_reducible rfl))
 (try simp only [Act.put, List.setIfInBounds_toArray, List.set_cons_zero, List.set_cons_succ])
 refine wpAnyH_take (i := 1) (oi := ⟨some 14, _, _, _, _, _⟩) (v := ?_) rfl (by kernel_rfl) (by kernel_rfl) (by kernel_rfl) (fun _ _ _ h => h) (Or.inl ⟨by kernel_rfl, ?_⟩) (by assumption) ?_
 rotate_left 1
 ·((intro w hSw; (try dsimp only at hSw); go_simp) <;> (try with_reducible rfl))
 (try simp only [Act.put, List.setIfInBounds_toArray, List.set_cons_zero, List.set_cons_succ])
 refine wpAnyH_take (i := 2) (oi := ⟨some 15, _, _, _, _, _⟩) (v := ?_) rfl (by kernel_rfl) (by kernel_rfl) (by kernel_rfl) (fun _ _ _ h => h) (Or.inl ⟨by kernel_rfl, ?_⟩) (by assumption) ?_
 rotate_left 1
 ·((intro w hSw; (try dsimp only at hSw); go_simp) <;> (try with_reducible rfl))
 (try simp only [Act.put, List.setIfInBounds_toArray, List.set_cons_zero, List.set_cons_succ])
 refine wpAnyH_take (i := 3) (oi := ⟨some 16, _, _, _, _, _⟩) (v := ?_) rfl (by kernel_rfl) (by kernel_rfl) (by kernel_rfl) (fun _ _ _ h => h) (Or.inl ⟨by kernel_rfl, ?_⟩) (by assumption) ?_
 rotate_left 1
 ·((intro w hSw; (try dsimp only at hSw); go_simp) <;> (try with_reducible rfl))
 (try simp only [Act.put, List.setIfInBounds_toArray, List.set_cons_zero, List.set_cons_succ])
 refine wpAnyH_take (i := 4) (oi := ⟨some 17, _, _, _, _, _⟩) (v := ?_) rfl (by kernel_rfl) (by kernel_rfl) (by kernel_rfl) (fun _ _ _ h => h) (Or.inl ⟨by kernel_rfl, ?_⟩) (by assumption) ?_
 rotate_left 1
 ·((intro w hSw; (try dsimp only at hSw); go_simp) <;> (try with_reducible rfl))
 (try simp only [Act.put, List.setIfInBounds_toArray, List.set_cons_zero, List.set_cons_succ])
 refine wpAnyH_take (i := 5) (oi := ⟨some 18, _, _, _, _, _⟩) (v := ?_) rfl (by kernel_rfl) (by kernel_rfl) (by kernel_rfl) (fun _ _ _ h => h) (Or.inl ⟨by kernel_rfl, ?_⟩) (by assumption) ?_
 rotate_left 1
 ·((intro w hSw; (try dsimp only at hSw); go_simp) <;> (try with_reducible rfl))
 (try simp only [Act.put, List.setIfInBounds_toArray, List.set_cons_zero, List.set_cons_succ])
 refine wpAnyH_take (i := 6) (oi := ⟨some 19, _, _, _, _, _⟩) (v := ?_) rfl (by kernel_rfl) (by kernel_rfl) (by kernel_rfl) (fun _ _ _ h => h) (Or.inl ⟨by kernel_rfl, ?_⟩) (by assumption) ?_
 rotate_left 1
 ·((intro w hSw; (try dsimp only at hSw); go_simp) <;> (try with_reducible rfl))
 (try simp only [Act.put, List.setIfInBounds_toArray, List.set_cons_zero, List.set_cons_succ])
 refine wpAnyH_ready (rs := [7]) (by kernel_rfl) (by simp) ?_
 refine AllReadyH.cons (o := ⟨some 20, _, _, _, _, _⟩) rfl (fun K hK => ?_) AllReadyH.nil
 go_simp
 refine (Tp.held_any (.slice t.tA t.tl.length t.tc) t.tl b' w2 (M2.out.inn (by have := HL.out; omega) (by have := HL.out; omega) (by have := HL.out; omega)).t).mono ?_
 rintro e w3 ⟨rfl, hb⟩
 rw [HHF.out]
 have M3 := Lib.hid (M2.out.below hb)
 have T3 := Lib.hid (T2.out.below hb)
 have X3 := Lib.hid (And.intro (keep_cell hb X2.out.1) (keep_cell hb X2.out.2))
 have HB3 := Lib.hid (HB2.out.trans (hb.mono (by have := T2.out.2.2.2.2.2; omega)))
 obtain ⟨h1, h2⟩ := hHeld
 have hH := And.intro (keep_cell hb h1) (keep_cell hb h2)
 clear h1 h2 hb M2 T2 X2 HB2
 go_wp2_with fail
 --CUT2
 refine hK.out _ _ hH (fun hHeld => ?_)
 clear hK K
 clear hH
 (try simp only [Act.put, List.setIfInBounds_toArray, List.set_cons_zero, List.set_cons_succ])
 refine wpAnyH_take (i := 8) (oi := ⟨some 12, _, _, _, _, _⟩) (v := ?_) rfl (by kernel_rfl) (by kernel_rfl) (by kernel_rfl) (fun _ _ _ h => h) (Or.inl ⟨by kernel_rfl, ?_⟩) (by assumption) ?_
 rotate_left 1
 ·((intro w hSw; (try dsimp only at hSw); go_simp) <;> (try with_reducible rfl))
 (try simp only [Act.put, List.setIfInBounds_toArray, List.set_cons_zero, List.set_cons_succ])
 refine wpAnyH_take (i := 9) (oi := ⟨some 21, _, _, _, _, _⟩) (v := ?_) rfl (by kernel_rfl) (by kernel_rfl) (by kernel_rfl) (fun _ _ _ h => h) (Or.inl ⟨by kernel_rfl, ?_⟩) (by assumption) ?_
 rotate_left 1
 ·((intro w hSw; (try dsimp only at hSw); go_simp) <;> (try with_reducible rfl))
 (try simp only [Act.put, List.setIfInBounds_toArray, List.set_cons_zero, List.set_cons_succ])
 refine wpAnyH_take (i := 10) (oi := ⟨some 22, _, _, _, _, _⟩) (v := ?_) rfl (by kernel_rfl) (by kernel_rfl) (by kernel_rfl) (fun _ _ _ h => h) (Or.inl ⟨by kernel_rfl, ?_⟩) (by assumption) ?_
 rotate_left 1
 ·((intro w hSw; (try dsimp only at hSw); go_simp) <;> (try with_reducible rfl))
 (try simp only [Act.put, List.setIfInBounds_toArray, List.set_cons_zero, List.set_cons_succ])
 refine wpAnyH_take (i := 11) (oi := ⟨some 6, _, _, _, _, _⟩) (v := ?_) rfl (by kernel_rfl) (by kernel_rfl) (by kernel_rfl) (fun _ _ _ h => h) (Or.inl ⟨by kernel_rfl, ?_⟩) (by assumption) ?_
 rotate_left 1
 ·((intro w hSw; (try dsimp only at hSw); go_simp) <;> (try with_reducible rfl))
 (try simp only [Act.put, List.setIfInBounds_toArray, List.set_cons_zero, List.set_cons_succ])
 refine wpAnyH_take (i := 12) (oi := ⟨some 7, _, _, _, _, _⟩) (v := ?_) rfl (by kernel_rfl) (by kernel_rfl) (by kernel_rfl) (fun _ _ _ h => h) (Or.inl ⟨by kernel_rfl, ?_⟩) (by assumption) ?_
 rotate_left 1
 ·((intro w hSw; (try dsimp only at hSw); go_simp) <;> (try with_reducible rfl))
 (try simp only [Act.put, List.setIfInBounds_toArray, List.set_cons_zero, List.set_cons_succ])
 refine wpAnyH_done (by kernel_rfl) ?_ _
 clear hHeld
 cases f2
 case true =>
  have hEE : E = 131 := by rw [HE.out]; rfl
  subst hEE
  go_wp2
  refine bodyPost_ret (v := .int .i64 131) ?_ rfl (by first | exact ⟨rfl, HB3.out⟩ | exact ⟨rfl, fun h => absurd h (by decide), HB3.out⟩)
  simp [results, Try.results83, go_sem]
 have hEE : E = Tp.tkE (t.tl.getD k (0, 0)).1 (t.tl.getD k (0, 0)).2 b' := by rw [HE.out]; rfl
 have HEE := Lib.hid hEE
 clear hEE
 go_upto_region 6 with fail
 --CUT3
 obtain ⟨e1, e2⟩ : w3.drew.cell? ⟨D, 0, none⟩ = some (.slice t.cA t.cl.length t.cc) ∧ w3.drew.cell? ⟨pi, 0, none⟩ = some (.int .i64 id) := ⟨M3.out.at'.1, X3.out.1⟩
 refine wp_region_held_drew (S := fun w' => w'.cell? ⟨D, 0, none⟩ = some (.slice t.cA t.cl.length t.cc) ∧ w'.cell? ⟨pi, 0, none⟩ = some (.int .i64 id)) (by kernel_rfl) ?_ (fun hHeld => ?_)
 ·exact ⟨e1, e2⟩
 clear e1 e2
 have bw := (Below.refl w3.heap.size w3).drew
 have M4 := Lib.hid (M3.out.below bw)
 have T4 := Lib.hid (T3.out.below bw)
 have HB4 := Lib.hid (Below.drew HB3.out)
 have hen := enters_of (P := Try.prog) (f := 85) Try.func85 (by kernel_rfl) rfl
 have HH := Lib.hid (handle_any t d b' w3.drew B D k 85 (Tp.tkV (t.tl.getD k (0, 0)).1 (t.tl.getD k (0, 0)).2 b') (Tp.tkE (t.tl.getD k (0, 0)).1 (t.tl.getD k (0, 0)).2 b') M4.out T4.out HK.out.2 HV.out (by have := HL.out; omega) hen (fun W => Tp.take_any _ _ b' W))
 clear bw M3 T3 HB3 hen
 have hX := X3.out.1
 clear X3
 rw [← HEE.out] at HH
 generalize w3.drew = w4 at *
 refine wpAnyH_take (i := 0) (oi := ⟨some 24, _, _, _, _, _⟩) (v := ?_) rfl (by kernel_rfl) (by kernel_rfl) (by kernel_rfl) (fun _ _ _ h => h) (Or.inl ⟨by kernel_rfl, ?_⟩) (by assumption) ?_
 rotate_left 1
 ·((intro w hSw; (try dsimp only at hSw); go_simp) <;> (try with_reducible rfl))
 (try simp only [Act.put, List.setIfInBounds_toArray, List.set_cons_zero, List.set_cons_succ])
 refine wpAnyH_take (i := 1) (oi := ⟨some 25, _, _, _, _, _⟩) (v := ?_) rfl (by kernel_rfl) (by kernel_rfl) (by kernel_rfl) (fun _ _ _ h => h) (Or.inl ⟨by kernel_rfl, ?_⟩) (by assumption) ?_
 rotate_left 1
 ·((intro w hSw; (try dsimp only at hSw); go_simp) <;> (try with_reducible rfl))
 (try simp only [Act.put, List.setIfInBounds_toArray, List.set_cons_zero, List.set_cons_succ])
 refine wpAnyH_take (i := 2) (oi := ⟨some 26, _, _, _, _, _⟩) (v := ?_) rfl (by kernel_rfl) (by kernel_rfl) (by kernel_rfl) (fun _ _ _ h => h) (Or.inl ⟨by kernel_rfl, ?_⟩) (by assumption) ?_
 rotate_left 1
 ·((intro w hSw; (try dsimp only at hSw); go_simp) <;> (try with_reducible rfl))
 (try simp only [Act.put, List.setIfInBounds_toArray, List.set_cons_zero, List.set_cons_succ])
 refine wpAnyH_take (i := 3) (oi := ⟨some 27, _, _, _, _, _⟩) (v := ?_) rfl (by kernel_rfl) (by kernel_rfl) (by kernel_rfl) (fun _ _ _ h => h) (Or.inl ⟨by kernel_rfl, ?_⟩) (by assumption) ?_
 rotate_left 1
 ·((intro w hSw; (try dsimp only at hSw); go_simp) <;> (try with_reducible rfl))
 (try simp only [Act.put, List.setIfInBounds_toArray, List.set_cons_zero, List.set_cons_succ])
 refine wpAnyH_take (i := 4) (oi := ⟨some 28, _, _, _, _, _⟩) (v := ?_) rfl (by kernel_rfl) (by kernel_rfl) (by kernel_rfl) (fun _ _ _ h => h) (Or.inl ⟨by kernel_rfl, ?_⟩) (by assumption) ?_
 rotate_left 1
 ·((intro w hSw; (try dsimp only at hSw); go_simp) <;> (try with_reducible rfl))
 (try simp only [Act.put, List.setIfInBounds_toArray, List.set_cons_zero, List.set_cons_succ])
 refine wpAnyH_take (i := 5) (oi := ⟨some 29, _, _, _, _, _⟩) (v := ?_) rfl (by kernel_rfl) (by kernel_rfl) (by kernel_rfl) (fun _ _ _ h => h) (Or.inl ⟨by kernel_rfl, ?_⟩) (by assumption) ?_
 rotate_left 1
 ·((intro w hSw; (try dsimp only at hSw); go_simp) <;> (try with_reducible rfl))
 (try simp only [Act.put, List.setIfInBounds_toArray, List.set_cons_zero, List.set_cons_succ])
 refine wpAnyH_take (i := 6) (oi := ⟨some 30, _, _, _, _, _⟩) (v := ?_) rfl (by kernel_rfl) (by kernel_rfl) (by kernel_rfl) (fun _ _ _ h => h) (Or.inl ⟨by kernel_rfl, ?_⟩) (by assumption) ?_
 rotate_left 1
 ·((intro w hSw; (try dsimp only at hSw); go_simp) <;> (try with_reducible rfl))
 (try simp only [Act.put, List.setIfInBounds_toArray, List.set_cons_zero, List.set_cons_succ])
 refine wpAnyH_take (i := 7) (oi := ⟨some 31, _, _, _, _, _⟩) (v := ?_) rfl (by kernel_rfl) (by kernel_rfl) (by kernel_rfl) (fun _ _ _ h => h) (Or.inl ⟨by kernel_rfl, ?_⟩) (by assumption) ?_
 rotate_left 1
 ·((intro w hSw; (try dsimp only at hSw); go_simp) <;> (try with_reducible rfl))
 (try simp only [Act.put, List.setIfInBounds_toArray, List.set_cons_zero, List.set_cons_succ])
 refine wpAnyH_take (i := 8) (oi := ⟨some 32, _, _, _, _, _⟩) (v := ?_) rfl (by kernel_rfl) (by kernel_rfl) (by kernel_rfl) (fun _ _ _ h => h) (Or.inl ⟨by kernel_rfl, ?_⟩) (by assumption) ?_
 rotate_left 1
 ·((intro w hSw; (try dsimp only at hSw); go_simp) <;> (try with_reducible rfl))
 (try simp only [Act.put, List.setIfInBounds_toArray, List.set_cons_zero, List.set_cons_succ])
 refine wpAnyH_take (i := 9) (oi := ⟨some 33, _, _, _, _, _⟩) (v := ?_) rfl (by kernel_rfl) (by kernel_rfl) (by kernel_rfl) (fun _ _ _ h => h) (Or.inl ⟨by kernel_rfl, ?_⟩) (by assumption) ?_
 rotate_left 1
 ·((intro w hSw; (try dsimp only at hSw); go_simp) <;> (try with_reducible rfl))
 (try simp only [Act.put, List.setIfInBounds_toArray, List.set_cons_zero, List.set_cons_succ])
 rw [HKK.out]
 --CUT4
 refine wpAnyH_ready (rs := [10]) (by kernel_rfl) (by simp) ?_
 refine AllReadyH.cons (o := ⟨some 34, _, _, _, _, _⟩) rfl (fun K hK => ?_) AllReadyH.nil
 go_simp
 refine HH.out.mono ?_
 rintro e w5 ⟨rfl, hM5, hT5, hb5⟩
 have M7 := Lib.hid hM5
 have HB7 := Lib.hid (HB4.out.trans hb5)
 obtain ⟨h1, h2⟩ := hHeld
 have hH := And.intro (show w5.cell? ⟨D, 0, none⟩ = some (.slice t.cA t.cl.length t.cc) from hM5.at'.1) ((hb5.cell (p := ⟨pi, 0, none⟩) HLB.out).trans h2)
 clear h1 h2 hM5 hT5 hb5 M4 T4 HB4
 go_wp2_with fail
 refine hK.out _ _ hH (fun hHeld => ?_)
 clear hK K
 clear hH
 (try simp only [Act.put, List.setIfInBounds_toArray, List.set_cons_zero, List.set_cons_succ])
 refine wpAnyH_take (i := 11) (oi := ⟨some 5, _, _, _, _, _⟩) (v := ?_) rfl (by kernel_rfl) (by kernel_rfl) (by kernel_rfl) (fun _ _ _ h => h) (Or.inl ⟨by kernel_rfl, ?_⟩) (by assumption) ?_
 rotate_left 1
 ·((intro w hSw; (try dsimp only at hSw); go_simp) <;> (try with_reducible rfl))
 (try simp only [Act.put, List.setIfInBounds_toArray, List.set_cons_zero, List.set_cons_succ])
 refine wpAnyH_done (by kernel_rfl) ?_ _
 clear hHeld
 go_wp2
 --CUT5
 refine bodyPost_ret (v := .int .i64 E) ?_ rfl ⟨rfl, fun _ => ⟨_, M7.out, ?_, by show t.cl.length ≤ _; have := HL.out; omega, by show t.ll.length ≤ _; have := HL.out; omega, by show (t.tl.set _ _).length ≤ _; rw [List.length_set]; have := HL.out; omega⟩, HB7.out⟩
 ·simp [results, Try.results83, go_sem]
 ·rw [HTA.out]
  rfl
end Go.Proofs.Ytacjonncakhhmaa
