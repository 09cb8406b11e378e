/- Two parts that may have no number, spans, and where a part lies: what the program and the reference answer. -/
import Derived.Test.YtmecohdedghiaaaGreatDoorPl01
import Derived.Test.YtmecohdedghiaaaGreatDoorPl04
import Derived.Deep.Cut
namespace Go.Proofs.YtmecohdedghiaaaGreatDoor
open Go.RowKit
def mulS (x y : Nat) (w : World) : Nat := (Ieee.double.mul x y).getD (nd x y w)
def mulD (x y : Nat) : Nat := if (Ieee.double.mul x y).isSome then 0 else 1
def addS (x y : Nat) (w : World) : Nat := (Ieee.double.add x y).getD (nd x y w)
def addD (x y : Nat) : Nat := if (Ieee.double.add x y).isSome then 0 else 1
theorem mul_run (x y : Nat) (w : World) : (binOp .mul 84 (.float .f64 x) (.float .f64 y)).run Tryz.prog w = .ok (.float .f64 (mulS x y w)) (w.drewN (mulD x y)) := by
 unfold mulS mulD
 rcases he : Ieee.double.mul x y with _ | p
 ·have he' : FloatKind.f64.format.mul x y = none := he
  simp [binOp, Op.floatArith, he', Question.forced]
  exact ⟨rfl, rfl⟩
 ·exact run_float_arith (P := Tryz.prog) w .mul 84 .f64 _ _ _ he
theorem add_run' (x y : Nat) (w : World) : (binOp .add 84 (.float .f64 x) (.float .f64 y)).run Tryz.prog w = .ok (.float .f64 (addS x y w)) (w.drewN (addD x y)) := by
 unfold addS addD
 rcases he : Ieee.double.add x y with _ | p
 ·have he' : FloatKind.f64.format.add x y = none := he
  simp [binOp, Op.floatArith, he', Question.forced]
  exact ⟨rfl, rfl⟩
 ·exact run_float_arith (P := Tryz.prog) w .add 84 .f64 _ _ _ he
/-- The middle, where it is a number. -/
def midO (X P c : Nat) : Option Nat := (Ieee.double.mul c P).bind fun p => Ieee.double.add X p
/-- A value is the middle. -/
def Mid (X P c m : Nat) : Prop := match midO X P c with | some v => m = v | none => nanb m = true
theorem mid_of (X P c : Nat) (w w' : World) : Mid X P c (addS X (mulS c P w) w') := by
 unfold Mid midO mulS addS
 rcases hm : Ieee.double.mul c P with _ | p
 ·have hn : nan (nd c P w) := of_decide_eq_true (nd_nan c P w)
  have ha := add_none X (nd c P w) (.inr (.inl hn))
  show nanb ((Ieee.double.add X (nd c P w)).getD (nd X (nd c P w) w')) = true
  rw [show Ieee.double.add X (nd c P w) = none from ha]
  exact nd_nan _ _ _
 ·show match Ieee.double.add X p with | some v => (Ieee.double.add X p).getD (nd X p w') = v | none => nanb ((Ieee.double.add X p).getD (nd X p w')) = true
  rcases ha : Ieee.double.add X p with _ | q
  ·exact nd_nan _ _ _
  ·rfl
/-- What a middle covers: the first lane, the last one, the error. -/
def covV (l : List Nat) (X P R c : Nat) : Nat × Nat × Int := rch l ((midO X P c).getD 9221120237041090560) R
theorem cov_mid (l : List Nat) (X P R c m : Nat) (h : Mid X P c m) : rch l m R = covV l X P R c := by
 unfold Mid at h
 unfold covV
 rcases e : midO X P c with _ | v
 ·rw [e] at h
  have h' : nanb m = true := h
  have h9 : nanb 9221120237041090560 = true := by decide +kernel
  show rch l m R = rch l 9221120237041090560 R
  unfold rch
  rw [h', h9]
  simp
 ·rw [e] at h
  have h' : m = v := h
  rw [h']
  rfl
/-- A column's number as a float. -/
def cf (n : Int) : Nat := floatOfInt FloatKind.f64 n
abbrev Rk.v (q : Rk) : Value := .agg #[.int .i64 q.rows, .int .i64 q.cols, .float .f64 q.x, .float .f64 q.p, .float .f64 q.r]
set_option maxRecDepth 100000 in
set_option maxHeartbeats 2000000 in
theorem middle_any (q : Rk) (c : Int) (w : World) : Calls Tryz.prog 219 #[q.v, .int .i64 c] w fun e w' => ∃ m, e = .returned (.float .f64 m) ∧ Mid q.x q.p (cf c) m ∧ Below w.heap.size w w' := by
 obtain ⟨a, b, X, P, R⟩ := q
 have hm := fun x y w => mul_run x y w
 have ha := fun x y w => add_run' x y w
 go_enter Tryz.func219, Tryz.ntmps219
 go_wp2
 go_ret
 exact ⟨_, rfl, mid_of _ _ _ _ _, below_drewN (Below.al (Below.refl _ _) _) _⟩
set_option maxRecDepth 100000 in
set_option maxHeartbeats 2000000 in
theorem rackLike_any (q : Pl) (w : World) : Calls Tryz.prog 217 #[q.v] w fun e w' => e = .returned (.agg #[.int .i64 q.rows, .int .i64 q.cols, .float .f64 q.x, .float .f64 q.p, .float .f64 q.r]) ∧ Below w.heap.size w w' := by
 obtain ⟨a, b, X, P, R, cap, sA, sn, sc, st⟩ := q
 have hsf := fun (w : World) (a : Addr) (m : Mode) (b : Nat) => run_store_float (P := Tryz.prog) (w := w) (a := a) (m := m) .f64 b
 go_enter Tryz.func217, Tryz.ntmps217
 go_wp2
 refine bodyPost_ret (v := .agg #[.int .i64 a, .int .i64 b, .float .f64 X, .float .f64 P, .float .f64 R]) (by simp [results, Tryz.results217, go_sem]) rfl ⟨rfl, ?_⟩
 (repeat (first | exact Below.refl _ _ | (with_reducible refine Below.st ?_ (by simp <;> omega)) | (with_reducible refine Below.al ?_ _)))
set_option maxRecDepth 100000 in
set_option maxHeartbeats 2000000 in
theorem one_any (k : Int) (w : World) : Calls Tryz.prog 243 #[.int .i64 k] w fun e w' => e = .returned (.agg #[.int .i64 k, .int .i64 k]) ∧ Below w.heap.size w w' := by
 go_enter Tryz.func243, Tryz.ntmps243
 go_wp2
 refine bodyPost_ret (v := .agg #[.int .i64 k, .int .i64 k]) (by simp [results, Tryz.results243, go_sem]) rfl ⟨rfl, ?_⟩
 (repeat (first | exact Below.refl _ _ | (with_reducible refine Below.st ?_ (by simp <;> omega)) | (with_reducible refine Below.al ?_ _)))
set_option maxRecDepth 100000 in
set_option maxHeartbeats 4000000 in
theorem covered_any (v : Value) (xs : List Nat) (q : Rk) (c : Int) (w : World) (h : KF.IsL w w.heap.size v xs) (hr : q.r < 18446744073709551616) : Calls Tryz.prog 156 #[v, q.v, .int .i64 c] w fun e w' => e = .returned (rchVal (covV xs q.x q.p q.r (cf c))) ∧ Below w.heap.size w w' := by
 obtain ⟨a, b, X, P, R⟩ := q
 have HR := Lib.hid (fun m (hm : Mid X P (cf c) m) (w : World) (h : KF.IsL w w.heap.size v xs) => show Calls Tryz.prog 218 #[v, .float .f64 m, .float .f64 R] w fun e w' => e = .returned (rchVal (covV xs X P R (cf c))) ∧ Below w.heap.size w w' by
  have := reach_any v xs m R hr w h
  rwa [cov_mid xs X P R (cf c) m hm] at this)
 show Calls Tryz.prog 156 #[v, .agg #[.int .i64 a, .int .i64 b, .float .f64 X, .float .f64 P, .float .f64 R], .int .i64 c] w fun e w' => e = .returned (rchVal (covV xs X P R (cf c))) ∧ Below w.heap.size w w'
 generalize covV xs X P R (cf c) = t at *
 obtain ⟨t1, t2, t3⟩ := t
 unfold rchVal at *
 dsimp only at HR ⊢
 have HL := Lib.hid h
 clear h hr
 obtain ⟨w0, hw0⟩ : ∃ w0, w0 = (w.alloc (.cells #[.int .i64 a, .int .i64 b, .float .f64 X, .float .f64 P, .float .f64 R] 118)).alloc (.cells #[.int .i64 0, .int .i64 0] 134) := ⟨_, rfl⟩
 go_enter Tryz.func156, Tryz.ntmps156
 go_wp2_with fail
 rw [← hw0]
 have HB0 := Lib.hid (show Below w.heap.size w w0.drew by rw [hw0]; exact (Below.al (Below.al (Below.refl _ _) _) _).drew)
 have HL0 := Lib.hid (show KF.IsL w0.drew w0.drew.heap.size v xs from HL.out.then HB0.out)
 have c0 : w0.cell? ⟨w.heap.size, 0, none⟩ = some (.int .i64 a) := by rw [hw0]; simp
 have c1 : w0.cell? ⟨w.heap.size, 1, none⟩ = some (.int .i64 b) := by rw [hw0]; simp
 have c2 : w0.cell? ⟨w.heap.size, 2, none⟩ = some (.float .f64 X) := by rw [hw0]; simp
 have c3 : w0.cell? ⟨w.heap.size, 3, none⟩ = some (.float .f64 P) := by rw [hw0]; simp
 have c4 : w0.cell? ⟨w.heap.size, 4, none⟩ = some (.float .f64 R) := by rw [hw0]; simp
 have r0 : w0.drew.cell? ⟨w.heap.size + 1, 0, none⟩ = some (.int .i64 0) := by rw [hw0]; simp [go_sem]
 have r1 : w0.drew.cell? ⟨w.heap.size + 1, 1, none⟩ = some (.int .i64 0) := by rw [hw0]; simp [go_sem]
 have z0 : w0.drew.frozen? ⟨w.heap.size + 1, 0, none⟩ = false := by rw [hw0]; simp [go_sem]
 have z1 : w0.drew.frozen? ⟨w.heap.size + 1, 1, none⟩ = false := by rw [hw0]; simp [go_sem]
 clear hw0 HL
 refine wp_region_held_drew (S := fun w' => w'.cell? ⟨w.heap.size, 0, none⟩ = some (.int .i64 a) ∧ w'.cell? ⟨w.heap.size, 1, none⟩ = some (.int .i64 b) ∧ w'.cell? ⟨w.heap.size, 2, none⟩ = some (.float .f64 X) ∧ w'.cell? ⟨w.heap.size, 3, none⟩ = some (.float .f64 P) ∧ w'.cell? ⟨w.heap.size, 4, none⟩ = some (.float .f64 R)) (by kernel_rfl) ?_ (fun hHeld => ?_)
 ·exact ⟨c0, c1, c2, c3, c4⟩
 refine wpAnyH_take (i := 0) (oi := ⟨some 8, _, _, _, _, _⟩) (v := ?_) rfl (by kernel_rfl) (by kernel_rfl) (by kernel_rfl) (fun _ _ _ h => h) (Or.inl ⟨by kernel_rfl, ?_⟩) (by assumption) ?_
 rotate_left 1
 ·((intro w hSw; (try dsimp only at hSw); go_simp) <;> (try with_reducible rfl))
 (try simp only [Act.put, List.setIfInBounds_toArray, List.set_cons_zero, List.set_cons_succ])
 refine wpAnyH_take (i := 1) (oi := ⟨some 9, _, _, _, _, _⟩) (v := ?_) rfl (by kernel_rfl) (by kernel_rfl) (by kernel_rfl) (fun _ _ _ h => h) (Or.inl ⟨by kernel_rfl, ?_⟩) (by assumption) ?_
 rotate_left 1
 ·((intro w hSw; (try dsimp only at hSw); go_simp) <;> (try with_reducible rfl))
 (try simp only [Act.put, List.setIfInBounds_toArray, List.set_cons_zero, List.set_cons_succ])
 refine wpAnyH_take (i := 2) (oi := ⟨some 10, _, _, _, _, _⟩) (v := ?_) rfl (by kernel_rfl) (by kernel_rfl) (by kernel_rfl) (fun _ _ _ h => h) (Or.inl ⟨by kernel_rfl, ?_⟩) (by assumption) ?_
 rotate_left 1
 ·((intro w hSw; (try dsimp only at hSw); go_simp) <;> (try with_reducible rfl))
 (try simp only [Act.put, List.setIfInBounds_toArray, List.set_cons_zero, List.set_cons_succ])
 refine wpAnyH_take (i := 4) (oi := ⟨some 12, _, _, _, _, _⟩) (v := ?_) rfl (by kernel_rfl) (by kernel_rfl) (by kernel_rfl) (fun _ _ _ h => h) (Or.inl ⟨by kernel_rfl, ?_⟩) (by assumption) ?_
 rotate_left 1
 ·((intro w hSw; (try dsimp only at hSw); go_simp) <;> (try with_reducible rfl))
 (try simp only [Act.put, List.setIfInBounds_toArray, List.set_cons_zero, List.set_cons_succ])
 refine wpAnyH_take (i := 5) (oi := ⟨some 13, _, _, _, _, _⟩) (v := ?_) rfl (by kernel_rfl) (by kernel_rfl) (by kernel_rfl) (fun _ _ _ h => h) (Or.inl ⟨by kernel_rfl, ?_⟩) (by assumption) ?_
 rotate_left 1
 ·((intro w hSw; (try dsimp only at hSw); go_simp) <;> (try with_reducible rfl))
 (try simp only [Act.put, List.setIfInBounds_toArray, List.set_cons_zero, List.set_cons_succ])
 clear c0 c1 c2 c3 c4
 refine wpAnyH_ready (rs := [3]) (by kernel_rfl) (by simp) ?_
 refine AllReadyH.cons (o := ⟨some 11, _, _, _, _, _⟩) rfl (fun K hK => ?_) AllReadyH.nil
 go_simp
 refine (middle_any ⟨a, b, X, P, R⟩ c _).mono ?_
 rintro e v1 ⟨m, rfl, hm, hb⟩
 have HM := Lib.hid hm
 have HB1 := Lib.hid (Below.call HB0.out hb)
 have HL1 := Lib.hid (HL0.out.then hb)
 have k0 := keep_cell hb r0
 have k1 := keep_cell hb r1
 have y0 := (hb.frozen (p := ⟨w.heap.size + 1, 0, none⟩) (World.block_lt_of_cell? _ _ r0)).trans z0
 have y1 := (hb.frozen (p := ⟨w.heap.size + 1, 1, none⟩) (World.block_lt_of_cell? _ _ r1)).trans z1
 clear hm r0 r1 z0 z1
 go_wp2_with fail
 refine hK.out _ _ ?_ (fun hHeld => ?_)
 ·exact ⟨keep_cell hb hHeld.1, keep_cell hb hHeld.2.1, keep_cell hb hHeld.2.2.1, keep_cell hb hHeld.2.2.2.1, keep_cell hb hHeld.2.2.2.2⟩
 clear hK K hb
 (try simp only [Act.put, List.setIfInBounds_toArray, List.set_cons_zero, List.set_cons_succ])
 refine wpAnyH_ready (rs := [6]) (by kernel_rfl) (by simp) ?_
 refine AllReadyH.cons (o := ⟨some 14, _, _, _, _, _⟩) rfl (fun K hK => ?_) AllReadyH.nil
 go_simp
 refine (HR.out m HM.out v1 HL1.out).mono ?_
 rintro e v2 ⟨rfl, hb⟩
 have HB2 := Lib.hid (Below.call HB1.out hb)
 have j0 := keep_cell hb k0
 have j1 := keep_cell hb k1
 have x0 := (hb.frozen (p := ⟨w.heap.size + 1, 0, none⟩) (World.block_lt_of_cell? _ _ k0)).trans y0
 have x1 := (hb.frozen (p := ⟨w.heap.size + 1, 1, none⟩) (World.block_lt_of_cell? _ _ k1)).trans y1
 clear k0 k1 y0 y1 HL1 HB1
 go_wp2_with fail
 refine hK.out _ _ ?_ (fun hHeld => ?_)
 ·exact ⟨keep_cell hb hHeld.1, keep_cell hb hHeld.2.1, keep_cell hb hHeld.2.2.1, keep_cell hb hHeld.2.2.2.1, keep_cell hb hHeld.2.2.2.2⟩
 clear hK K hb
 (try simp only [Act.put, List.setIfInBounds_toArray, List.set_cons_zero, List.set_cons_succ])
 refine wpAnyH_take (i := 7) (oi := ⟨some 15, _, _, _, _, _⟩) (v := ?_) rfl (by kernel_rfl) (by kernel_rfl) (by kernel_rfl) (fun _ _ _ h => h) (Or.inl ⟨by kernel_rfl, ?_⟩) (by assumption) ?_
 rotate_left 1
 ·((intro w hSw; (try dsimp only at hSw); go_simp) <;> (try with_reducible rfl))
 (try simp only [Act.put, List.setIfInBounds_toArray, List.set_cons_zero, List.set_cons_succ])
 refine wpAnyH_take (i := 8) (oi := ⟨some 16, _, _, _, _, _⟩) (v := ?_) rfl (by kernel_rfl) (by kernel_rfl) (by kernel_rfl) (fun _ _ _ h => h) (Or.inl ⟨by kernel_rfl, ?_⟩) (by assumption) ?_
 rotate_left 1
 ·((intro w hSw; (try dsimp only at hSw); go_simp) <;> (try with_reducible rfl))
 (try simp only [Act.put, List.setIfInBounds_toArray, List.set_cons_zero, List.set_cons_succ])
 refine wpAnyH_ready (rs := [9]) (by kernel_rfl) (by simp) ?_
 refine AllReadyH.cons (o := ⟨none, _, _, _, _, _⟩) rfl (fun K hK => ?_) AllReadyH.nil
 go_simp
 refine hK.out _ _ ?_ (fun hHeld => ?_)
 ·exact ⟨st_other (st_other hHeld.1 (by simp)) (by simp), st_other (st_other hHeld.2.1 (by simp)) (by simp), st_other (st_other hHeld.2.2.1 (by simp)) (by simp), st_other (st_other hHeld.2.2.2.1 (by simp)) (by simp), st_other (st_other hHeld.2.2.2.2 (by simp)) (by simp)⟩
 clear hK K
 (try simp only [Act.put, List.setIfInBounds_toArray, List.set_cons_zero, List.set_cons_succ])
 refine wpAnyH_take (i := 10) (oi := ⟨some 7, _, _, _, _, _⟩) (v := ?_) rfl (by kernel_rfl) (by kernel_rfl) (by kernel_rfl) (fun _ _ _ h => h) (Or.inl ⟨by kernel_rfl, ?_⟩) (by assumption) ?_
 rotate_left 1
 ·((intro w hSw; (try dsimp only at hSw); go_simp) <;> (try with_reducible rfl))
 (try simp only [Act.put, List.setIfInBounds_toArray, List.set_cons_zero, List.set_cons_succ])
 refine wpAnyH_done (by kernel_rfl) ?_ _
 go_wp2
 have s0 : ((v2.setCell ⟨w.heap.size + 1, 0, none⟩ (.int .i64 t1)).setCell ⟨w.heap.size + 1, 1, none⟩ (.int .i64 t2)).cell? ⟨w.heap.size + 1, 0, none⟩ = some (.int .i64 t1) := st_other (st_same j0) (by simp)
 have s1 : ((v2.setCell ⟨w.heap.size + 1, 0, none⟩ (.int .i64 t1)).setCell ⟨w.heap.size + 1, 1, none⟩ (.int .i64 t2)).cell? ⟨w.heap.size + 1, 1, none⟩ = some (.int .i64 t2) := st_same (st_other j1 (by simp))
 exact bodyPost_ret (v := .tuple #[.agg #[.int .i64 t1, .int .i64 t2], .int .i64 t3]) (by simp [results, Tryz.results156, go_sem, s0, s1]) rfl ⟨rfl, Below.st (Below.st HB2.out (by show w.heap.size ≤ w.heap.size + 1; omega)) (by show w.heap.size ≤ w.heap.size + 1; omega)⟩
end Go.Proofs.YtmecohdedghiaaaGreatDoor
namespace Go.Proofs.YtmecohdedghiaaaGreatDoor
open Go.RowKit
/-- A plate as a rack. -/
def rkPl (q : Pl) : Rk := ⟨q.rows, q.cols, q.x, q.p, q.r⟩
/-- What a part lies on. -/
noncomputable def rkOf (d : Dk) (p : Q4) : Rk := if p.a = 1 then rkPl (d.pl.getD p.b.toNat KP.dflt) else d.rl.getD p.b.toNat KR.dflt
/-- A part of a well or a tip that is there. -/
def Lies (d : Dk) (p : Q4) : Prop := (p.a = 1 ∧ 0 ≤ p.b ∧ p.b.toNat < d.pl.length) ∨ (p.a = 2 ∧ 0 ≤ p.b ∧ p.b.toNat < d.rl.length)
theorem rkOf_ok {w : World} {d : Dk} (hd : d.In w w.heap.size) (p : Q4) (h : Lies d p) : (rkOf d p).r < 18446744073709551616 := by
 unfold rkOf
 rcases h with ⟨h, _, hl⟩ | ⟨h, _, hl⟩
 ·rw [if_pos h]
  exact (hd.p.okAt _ hl).2.2.2.2.1
 ·rw [if_neg (by omega)]
  exact (hd.r.okAt _ hl).2.2.2.2
set_option maxRecDepth 100000 in
set_option maxHeartbeats 4000000 in
theorem rackOf_any (d : Dk) (p : Q4) (w : World) (hd : d.In w w.heap.size) (hp : Lies d p) : Calls Tryz.prog 244 #[d.v, p.v] w fun e w' => e = .returned (rkOf d p).v ∧ Below w.heap.size w w' := by
 obtain ⟨pa, pb, pc', pd⟩ := p
 have HD := Lib.hid hd
 have e0 := hd.b.len
 have e1 := hd.p.len
 have e2 := hd.r.len
 unfold Lies at hp
 dsimp only at hp
 obtain ⟨k, rfl⟩ : ∃ k : Nat, pb = (k : Int) := ⟨pb.toNat, by omega⟩
 rw [Int.toNat_natCast] at hp
 have T : rkOf d ⟨pa, k, pc', pd⟩ = if pa = 1 then rkPl (d.pl.getD k KP.dflt) else d.rl.getD k KR.dflt := by unfold rkOf; dsimp only; rw [Int.toNat_natCast]
 rw [T]
 clear T
 obtain ⟨bA, bn, bc, bl, pA, pn, pc, pl, rA, rn, rc, rl, arms⟩ := d
 dsimp only at *
 subst e0 e1 e2
 clear hd
 have hsf := fun (w : World) (a : Addr) (m : Mode) (b : Nat) => run_store_float (P := Tryz.prog) (w := w) (a := a) (m := m) .f64 b
 rcases hp with ⟨rfl, _, hl⟩ | ⟨rfl, _, hl⟩
 ·rw [if_pos rfl]
  have hb0 := Below.al (Below.al (Below.al (Below.refl w.heap.size w) (.cells #[.slice bA bl.length bc, .slice pA pl.length pc, .slice rA rl.length rc, .int .i64 arms] 26)) (.cells #[.int .i64 1, .int .i64 k, .int .i64 pc', .int .i64 pd] 153)) (.cells #[.int .i64 0, .int .i64 0, .float .f64 0, .float .f64 0, .float .f64 0] 118)
  obtain ⟨w0, hw0⟩ : ∃ w0, w0 = ((w.alloc (.cells #[.slice bA bl.length bc, .slice pA pl.length pc, .slice rA rl.length rc, .int .i64 arms] 26)).alloc (.cells #[.int .i64 1, .int .i64 k, .int .i64 pc', .int .i64 pd] 153)).alloc (.cells #[.int .i64 0, .int .i64 0, .float .f64 0, .float .f64 0, .float .f64 0] 118) := ⟨_, rfl⟩
  rw [← hw0] at hb0
  obtain ⟨b, off, rfl, hb, hc, hcell⟩ := plate_cells (HD.out.p.below hb0) (by dsimp only; omega)
  obtain ⟨c0, c1, c2, c3, c4, c5, c6⟩ := hcell k hl
  have HRP := Lib.hid (fun w => rackLike_any (pl.getD k KP.dflt) w)
  clear hcell
  dsimp only at *
  generalize pl.getD k KP.dflt = q at *
  obtain ⟨a1, a2, X, P, R, cap, sA, sn, sc, st⟩ := q
  dsimp only at *
  unfold rkPl
  rw [hw0] at c0 c1 c2 c3 c4 c5 c6
  go_enter Tryz.func244, Tryz.ntmps244
  go_wp2_with fail
  refine (HRP.out _).mono ?_
  rintro e w1 ⟨rfl, hb1⟩
  have r0 : w1.cell? ⟨w.heap.size + 1 + 1, 0, none⟩ = some (.int .i64 0) := keep_cell hb1 (by simp [go_sem])
  have r1 : w1.cell? ⟨w.heap.size + 1 + 1, 1, none⟩ = some (.int .i64 0) := keep_cell hb1 (by simp [go_sem])
  have r2 : w1.cell? ⟨w.heap.size + 1 + 1, 2, none⟩ = some (.float .f64 0) := keep_cell hb1 (by simp [go_sem])
  have r3 : w1.cell? ⟨w.heap.size + 1 + 1, 3, none⟩ = some (.float .f64 0) := keep_cell hb1 (by simp [go_sem])
  have r4 : w1.cell? ⟨w.heap.size + 1 + 1, 4, none⟩ = some (.float .f64 0) := keep_cell hb1 (by simp [go_sem])
  have z0 : w1.frozen? ⟨w.heap.size + 1 + 1, 0, none⟩ = false := by rw [hb1.frozen (p := ⟨w.heap.size + 1 + 1, 0, none⟩) (by simp [go_sem])]; simp [go_sem]
  have z1 : w1.frozen? ⟨w.heap.size + 1 + 1, 1, none⟩ = false := by rw [hb1.frozen (p := ⟨w.heap.size + 1 + 1, 1, none⟩) (by simp [go_sem])]; simp [go_sem]
  have z2 : w1.frozen? ⟨w.heap.size + 1 + 1, 2, none⟩ = false := by rw [hb1.frozen (p := ⟨w.heap.size + 1 + 1, 2, none⟩) (by simp [go_sem])]; simp [go_sem]
  have z3 : w1.frozen? ⟨w.heap.size + 1 + 1, 3, none⟩ = false := by rw [hb1.frozen (p := ⟨w.heap.size + 1 + 1, 3, none⟩) (by simp [go_sem])]; simp [go_sem]
  have z4 : w1.frozen? ⟨w.heap.size + 1 + 1, 4, none⟩ = false := by rw [hb1.frozen (p := ⟨w.heap.size + 1 + 1, 4, none⟩) (by simp [go_sem])]; simp [go_sem]
  rw [hw0] at hb0
  have HB1 := Lib.hid (Below.call hb0 hb1)
  clear hb1 hb0 hw0 c0 c1 c2 c3 c4 c5 c6
  go_wp2
  refine bodyPost_ret (v := .agg #[.int .i64 a1, .int .i64 a2, .float .f64 X, .float .f64 P, .float .f64 R]) (by simp [results, Tryz.results244, go_sem, r0, r1, r2, r3, r4]) rfl ⟨rfl, ?_⟩
  exact Below.st (Below.st (Below.st (Below.st (Below.st HB1.out (by show w.heap.size ≤ w.heap.size + 1 + 1; omega)) (by show w.heap.size ≤ w.heap.size + 1 + 1; omega)) (by show w.heap.size ≤ w.heap.size + 1 + 1; omega)) (by show w.heap.size ≤ w.heap.size + 1 + 1; omega)) (by show w.heap.size ≤ w.heap.size + 1 + 1; omega)
 ·rw [if_neg (by decide)]
  have hb0 := Below.al (Below.al (Below.al (Below.refl w.heap.size w) (.cells #[.slice bA bl.length bc, .slice pA pl.length pc, .slice rA rl.length rc, .int .i64 arms] 26)) (.cells #[.int .i64 2, .int .i64 k, .int .i64 pc', .int .i64 pd] 153)) (.cells #[.int .i64 0, .int .i64 0, .float .f64 0, .float .f64 0, .float .f64 0] 118)
  obtain ⟨w0, hw0⟩ : ∃ w0, w0 = ((w.alloc (.cells #[.slice bA bl.length bc, .slice pA pl.length pc, .slice rA rl.length rc, .int .i64 arms] 26)).alloc (.cells #[.int .i64 2, .int .i64 k, .int .i64 pc', .int .i64 pd] 153)).alloc (.cells #[.int .i64 0, .int .i64 0, .float .f64 0, .float .f64 0, .float .f64 0] 118) := ⟨_, rfl⟩
  rw [← hw0] at hb0
  obtain ⟨b, off, rfl, hb, hc, hcell⟩ := rack_cells (HD.out.r.below hb0) (by dsimp only; omega)
  obtain ⟨c0, c1, c2, c3, c4⟩ := hcell k hl
  clear hcell
  dsimp only at *
  generalize rl.getD k KR.dflt = q at *
  obtain ⟨a1, a2, X, P, R⟩ := q
  dsimp only at *
  rw [hw0] at c0 c1 c2 c3 c4 hb0
  have HB0 := Lib.hid hb0
  clear hb0 hw0
  go_enter Tryz.func244, Tryz.ntmps244
  go_wp2
  refine bodyPost_ret (v := .agg #[.int .i64 a1, .int .i64 a2, .float .f64 X, .float .f64 P, .float .f64 R]) (by simp [results, Tryz.results244, go_sem]) rfl ⟨rfl, ?_⟩
  (repeat (first | exact Below.refl _ _ | (with_reducible refine Below.st ?_ (by simp <;> omega)) | (with_reducible refine Below.al ?_ _)))
end Go.Proofs.YtmecohdedghiaaaGreatDoor
namespace Go.Proofs.YtmecohdedghiaaaGreatDoor
open Go.RowKit
theorem ad_nf {b b' o o' : Nat} (h : b ≠ b' ∨ o ≠ o') : (⟨b, o, none⟩ : Addr) ≠ ⟨b', o', none⟩ := by
 intro e
 cases e
 rcases h with h | h <;> exact h rfl
theorem part_lies (d : Dk) (p : Q4) (hp : p ∈ partsK d) : (p.a = 3 ∧ 0 ≤ p.b) ∨ Lies d p := by
 have hp0 := hp
 unfold partsK at hp
 by_cases hz : dchk d = 0
 ·rw [if_pos hz] at hp
  unfold partsL partsU unitsL at hp
  obtain ⟨u, hu, hp⟩ := List.mem_flatMap.1 hp
  have hpar : p.a = u.a ∧ p.b = u.b := by
   unfold unitParts at hp
   obtain ⟨i, _, rfl⟩ := List.mem_map.1 hp
   exact ⟨rfl, rfl⟩
  rcases List.mem_append.1 hu with hu | hu
  ·rcases List.mem_append.1 hu with hu | hu
   ·obtain ⟨i, hi, rfl⟩ := List.mem_map.1 hu
    have hi := List.mem_range.1 hi
    have e1 : p.a = 1 := hpar.1
    have e2 : p.b = (i : Int) := hpar.2
    exact .inr (.inl ⟨e1, by omega, by rw [e2, Int.toNat_natCast]; exact hi⟩)
   ·obtain ⟨i, hi, rfl⟩ := List.mem_map.1 hu
    have hi := List.mem_range.1 hi
    have e1 : p.a = 2 := hpar.1
    have e2 : p.b = (i : Int) := hpar.2
    exact .inr (.inr ⟨e1, by omega, by rw [e2, Int.toNat_natCast]; exact hi⟩)
  ·obtain ⟨i, hi, rfl⟩ := List.mem_map.1 hu
   have e1 : p.a = 3 := hpar.1
   have e2 : p.b = (i : Int) := hpar.2
   exact .inl ⟨e1, by omega⟩
 ·rw [if_neg hz] at hp
  cases hp
/-- The lanes of a part: the first one, the last one, the error. -/
noncomputable def spnP (d : Dk) (p : Q4) : Nat × Nat × Int := if p.a = 3 then (p.b.toNat, p.b.toNat, 0) else covV d.bl (rkOf d p).x (rkOf d p).p (rkOf d p).r (cf p.d)
/-- The lanes of an id. -/
noncomputable def spanV (d : Dk) (id : Int) : Nat × Nat × Int := if (partV d id).2 = 0 then spnP d (partV d id).1 else (0, 0, (partV d id).2)
set_option maxRecDepth 100000 in
set_option maxHeartbeats 4000000 in
theorem span_any (d : Dk) (id : Int) (hid : fits id) (w : World) (hd : d.In w w.heap.size) : Calls Tryz.prog 206 #[d.v, .int .i64 id] w fun e w' => e = .returned (rchVal (spanV d id)) ∧ Below w.heap.size w w' := by
 have HD := Lib.hid hd
 have HP := Lib.hid (fun w h => part_any d id hid w h)
 have HOK := Lib.hid (partV_ok d id)
 have HS := Lib.hid (show spanV d id = if (partV d id).2 = 0 then spnP d (partV d id).1 else (0, 0, (partV d id).2) from rfl)
 rw [HS.out]
 clear HS
 generalize partV d id = t at *
 obtain ⟨p, err⟩ := t
 dsimp only at *
 unfold partVal at HP
 dsimp only at HP
 by_cases he : err = 0
 ·subst he
  rw [if_pos rfl]
  obtain ⟨hok, hmem, hz, _, _⟩ := HOK.out rfl
  clear HOK
  rcases part_lies d p hmem with ⟨h3, hb0⟩ | hl
  ·have T : spnP d p = (p.b.toNat, p.b.toNat, 0) := by unfold spnP; rw [if_pos h3]
   rw [T]
   have q3 : (p.a == 3) = true := by rw [beq_iff_eq]; exact h3
   have HB := Lib.hid (show ((p.b.toNat : Nat) : Int) = p.b by omega)
   clear T h3 hok hmem hz hd hb0
   have HO := Lib.hid (fun k w => one_any k w)
   obtain ⟨a, b, c, dd⟩ := p
   dsimp only at *
   unfold rchVal
   dsimp only
   rw [HB.out]
   go_enter Tryz.func206, Tryz.ntmps206
   go_wp2_with fail
   refine (HP.out _ (HD.out.then (Below.al (Below.al (Below.refl _ _) _) _))).mono ?_
   rintro e w1 ⟨rfl, hb1⟩
   have c0 : w1.cell? ⟨w.heap.size, 0, none⟩ = some (.slice d.bA d.bn d.bc) := keep_cell hb1 (by simp [go_sem])
   have c1 : w1.cell? ⟨w.heap.size, 1, none⟩ = some (.slice d.pA d.pn d.pc) := keep_cell hb1 (by simp [go_sem])
   have c2 : w1.cell? ⟨w.heap.size, 2, none⟩ = some (.slice d.rA d.rn d.rc) := keep_cell hb1 (by simp [go_sem])
   have c3 : w1.cell? ⟨w.heap.size, 3, none⟩ = some (.int .i64 d.arms) := keep_cell hb1 (by simp [go_sem])
   have r0 : w1.cell? ⟨w.heap.size + 1, 0, none⟩ = some (.int .i64 0) := keep_cell hb1 (by simp [go_sem])
   have z0 : w1.frozen? ⟨w.heap.size + 1, 0, none⟩ = false := by rw [hb1.frozen (p := ⟨w.heap.size + 1, 0, none⟩) (by simp [go_sem])]; simp [go_sem]
   have r1 : w1.cell? ⟨w.heap.size + 1, 1, none⟩ = some (.int .i64 0) := keep_cell hb1 (by simp [go_sem])
   have z1 : w1.frozen? ⟨w.heap.size + 1, 1, none⟩ = false := by rw [hb1.frozen (p := ⟨w.heap.size + 1, 1, none⟩) (by simp [go_sem])]; simp [go_sem]
   have hs := hb1.size
   simp at hs
   have HB1 := Lib.hid (Below.call (Below.al (Below.al (Below.refl _ _) (.cells #[.slice d.bA d.bn d.bc, .slice d.pA d.pn d.pc, .slice d.rA d.rn d.rc, .int .i64 d.arms] 26)) (.cells #[.int .i64 0, .int .i64 0] 134)) hb1)
   clear hb1
   go_wp2_with fail
   refine (HO.out _ _).mono ?_
   rintro e w2 ⟨rfl, hb2⟩
   have hb3 := Below.call (Below.al (Below.refl _ _) _) hb2
   have s0 := keep_cell hb3 r0
   have s1 := keep_cell hb3 r1
   have y0 := (hb3.frozen (p := ⟨w.heap.size + 1, 0, none⟩) (World.block_lt_of_cell? _ _ r0)).trans z0
   have y1 := (hb3.frozen (p := ⟨w.heap.size + 1, 1, none⟩) (World.block_lt_of_cell? _ _ r1)).trans z1
   have HB2 := Lib.hid (Below.call HB1.out hb3)
   clear hb2 hb3 r0 r1 z0 z1 c0 c1 c2 c3
   go_wp2
   exact bodyPost_ret (v := .tuple #[.agg #[.int .i64 b, .int .i64 b], .int .i64 0]) (by simp [results, Tryz.results206, go_sem, s0, s1]) rfl ⟨rfl, Below.st (Below.st HB2.out (by show w.heap.size ≤ w.heap.size + 1; omega)) (by show w.heap.size ≤ w.heap.size + 1; omega)⟩
  ·have h3 : p.a ≠ 3 := by rcases hl with h | h <;> omega
   have T : spnP d p = covV d.bl (rkOf d p).x (rkOf d p).p (rkOf d p).r (cf p.d) := by unfold spnP; rw [if_neg h3]
   rw [T]
   have q3 : (p.a == 3) = false := by rw [beq_eq_false_iff_ne]; exact h3
   have HRO := Lib.hid (fun w h => rackOf_any d p w h hl)
   have HLR := Lib.hid (fun (w : World) (h : d.In w w.heap.size) => rkOf_ok h p hl)
   have HC := Lib.hid (fun (w : World) (h : d.In w w.heap.size) => covered_any (.slice d.bA d.bn d.bc) d.bl (rkOf d p) p.d w h.b (HLR.out w h))
   clear T h3 hok hmem hz hd hl HLR
   generalize covV d.bl (rkOf d p).x (rkOf d p).p (rkOf d p).r (cf p.d) = t at *
   generalize rkOf d p = q at *
   obtain ⟨t1, t2, t3⟩ := t
   unfold rchVal at *
   dsimp only at *
   go_enter Tryz.func206, Tryz.ntmps206
   go_wp2_with fail
   refine (HP.out _ (HD.out.then (Below.al (Below.al (Below.refl _ _) _) _))).mono ?_
   rintro e w1 ⟨rfl, hb1⟩
   have c0 : w1.cell? ⟨w.heap.size, 0, none⟩ = some (.slice d.bA d.bn d.bc) := keep_cell hb1 (by simp [go_sem])
   have c1 : w1.cell? ⟨w.heap.size, 1, none⟩ = some (.slice d.pA d.pn d.pc) := keep_cell hb1 (by simp [go_sem])
   have c2 : w1.cell? ⟨w.heap.size, 2, none⟩ = some (.slice d.rA d.rn d.rc) := keep_cell hb1 (by simp [go_sem])
   have c3 : w1.cell? ⟨w.heap.size, 3, none⟩ = some (.int .i64 d.arms) := keep_cell hb1 (by simp [go_sem])
   have r0 : w1.cell? ⟨w.heap.size + 1, 0, none⟩ = some (.int .i64 0) := keep_cell hb1 (by simp [go_sem])
   have z0 : w1.frozen? ⟨w.heap.size + 1, 0, none⟩ = false := by rw [hb1.frozen (p := ⟨w.heap.size + 1, 0, none⟩) (by simp [go_sem])]; simp [go_sem]
   have r1 : w1.cell? ⟨w.heap.size + 1, 1, none⟩ = some (.int .i64 0) := keep_cell hb1 (by simp [go_sem])
   have z1 : w1.frozen? ⟨w.heap.size + 1, 1, none⟩ = false := by rw [hb1.frozen (p := ⟨w.heap.size + 1, 1, none⟩) (by simp [go_sem])]; simp [go_sem]
   have hs := hb1.size
   simp at hs
   have HB1 := Lib.hid (Below.call (Below.al (Below.al (Below.refl _ _) (.cells #[.slice d.bA d.bn d.bc, .slice d.pA d.pn d.pc, .slice d.rA d.rn d.rc, .int .i64 d.arms] 26)) (.cells #[.int .i64 0, .int .i64 0] 134)) hb1)
   clear hb1
   obtain ⟨G, hG⟩ : ∃ G, G = w1.heap.size := ⟨_, rfl⟩
   have hne : w.heap.size + 1 < G := by omega
   go_upto_region 6 with fail
   rw [← hG]
   obtain ⟨W, hW⟩ : ∃ W, W = w1.alloc (.cells #[.int .i64 p.a, .int .i64 p.b, .int .i64 p.c, .int .i64 p.d] 153) := ⟨_, rfl⟩
   rw [← hW]
   have hb := (show Below w1.heap.size w1 W by rw [hW]; exact Below.al (Below.refl _ _) _)
   have HBW := Lib.hid (Below.call HB1.out hb)
   have c0' : W.cell? ⟨w.heap.size, 0, none⟩ = some (.slice d.bA d.bn d.bc) := keep_cell hb c0
   have c1' : W.cell? ⟨w.heap.size, 1, none⟩ = some (.slice d.pA d.pn d.pc) := keep_cell hb c1
   have c2' : W.cell? ⟨w.heap.size, 2, none⟩ = some (.slice d.rA d.rn d.rc) := keep_cell hb c2
   have c3' : W.cell? ⟨w.heap.size, 3, none⟩ = some (.int .i64 d.arms) := keep_cell hb c3
   have r0' : W.cell? ⟨w.heap.size + 1, 0, none⟩ = some (.int .i64 0) := keep_cell hb r0
   have z0' : W.frozen? ⟨w.heap.size + 1, 0, none⟩ = false := (hb.frozen (p := ⟨w.heap.size + 1, 0, none⟩) (World.block_lt_of_cell? _ _ r0)).trans z0
   have r1' : W.cell? ⟨w.heap.size + 1, 1, none⟩ = some (.int .i64 0) := keep_cell hb r1
   have z1' : W.frozen? ⟨w.heap.size + 1, 1, none⟩ = false := (hb.frozen (p := ⟨w.heap.size + 1, 1, none⟩) (World.block_lt_of_cell? _ _ r1)).trans z1
   have p0 : W.cell? ⟨G, 0, none⟩ = some (.int .i64 p.a) := by rw [hW, hG]; simp
   have p1 : W.cell? ⟨G, 1, none⟩ = some (.int .i64 p.b) := by rw [hW, hG]; simp
   have p2 : W.cell? ⟨G, 2, none⟩ = some (.int .i64 p.c) := by rw [hW, hG]; simp
   have p3 : W.cell? ⟨G, 3, none⟩ = some (.int .i64 p.d) := by rw [hW, hG]; simp
   clear hb hW HB1 c0 c1 c2 c3 r0 r1 z0 z1
   have HBV := Lib.hid (show Below w.heap.size w W.drew from HBW.out.drew)
   have HDV := Lib.hid (show d.In W.drew W.drew.heap.size from HD.out.then HBV.out)
   clear hG hs HBW
   refine wp_region_held_drew (S := fun w' => w'.cell? ⟨w.heap.size, 0, none⟩ = some (.slice d.bA d.bn d.bc) ∧ w'.cell? ⟨w.heap.size, 1, none⟩ = some (.slice d.pA d.pn d.pc) ∧ w'.cell? ⟨w.heap.size, 2, none⟩ = some (.slice d.rA d.rn d.rc) ∧ w'.cell? ⟨w.heap.size, 3, none⟩ = some (.int .i64 d.arms) ∧ w'.cell? ⟨G, 0, none⟩ = some (.int .i64 p.a) ∧ w'.cell? ⟨G, 1, none⟩ = some (.int .i64 p.b) ∧ w'.cell? ⟨G, 2, none⟩ = some (.int .i64 p.c) ∧ w'.cell? ⟨G, 3, none⟩ = some (.int .i64 p.d)) (by kernel_rfl) ?_ (fun hHeld => ?_)
   ·exact ⟨c0', c1', c2', c3', p0, p1, p2, p3⟩
   clear c0' c1' c2' c3' p0 p1 p2 p3
   refine wpAnyH_take (i := 0) (oi := ⟨some 26, _, _, _, _, _⟩) (v := ?_) rfl (by kernel_rfl) (by kernel_rfl) (by kernel_rfl) (fun _ _ _ h => h) (Or.inl ⟨by kernel_rfl, ?_⟩) (by assumption) ?_
   rotate_left 1
   ·((intro w hSw; (try dsimp only at hSw); go_simp) <;> (try with_reducible rfl))
   (try simp only [Act.put, List.setIfInBounds_toArray, List.set_cons_zero, List.set_cons_succ])
   refine wpAnyH_take (i := 1) (oi := ⟨some 27, _, _, _, _, _⟩) (v := ?_) rfl (by kernel_rfl) (by kernel_rfl) (by kernel_rfl) (fun _ _ _ h => h) (Or.inl ⟨by kernel_rfl, ?_⟩) (by assumption) ?_
   rotate_left 1
   ·((intro w hSw; (try dsimp only at hSw); go_simp) <;> (try with_reducible rfl))
   (try simp only [Act.put, List.setIfInBounds_toArray, List.set_cons_zero, List.set_cons_succ])
   refine wpAnyH_take (i := 2) (oi := ⟨some 28, _, _, _, _, _⟩) (v := ?_) rfl (by kernel_rfl) (by kernel_rfl) (by kernel_rfl) (fun _ _ _ h => h) (Or.inl ⟨by kernel_rfl, ?_⟩) (by assumption) ?_
   rotate_left 1
   ·((intro w hSw; (try dsimp only at hSw); go_simp) <;> (try with_reducible rfl))
   (try simp only [Act.put, List.setIfInBounds_toArray, List.set_cons_zero, List.set_cons_succ])
   refine wpAnyH_take (i := 3) (oi := ⟨some 29, _, _, _, _, _⟩) (v := ?_) rfl (by kernel_rfl) (by kernel_rfl) (by kernel_rfl) (fun _ _ _ h => h) (Or.inl ⟨by kernel_rfl, ?_⟩) (by assumption) ?_
   rotate_left 1
   ·((intro w hSw; (try dsimp only at hSw); go_simp) <;> (try with_reducible rfl))
   (try simp only [Act.put, List.setIfInBounds_toArray, List.set_cons_zero, List.set_cons_succ])
   refine wpAnyH_take (i := 5) (oi := ⟨some 31, _, _, _, _, _⟩) (v := ?_) rfl (by kernel_rfl) (by kernel_rfl) (by kernel_rfl) (fun _ _ _ h => h) (Or.inl ⟨by kernel_rfl, ?_⟩) (by assumption) ?_
   rotate_left 1
   ·((intro w hSw; (try dsimp only at hSw); go_simp) <;> (try with_reducible rfl))
   (try simp only [Act.put, List.setIfInBounds_toArray, List.set_cons_zero, List.set_cons_succ])
   refine wpAnyH_take (i := 6) (oi := ⟨some 32, _, _, _, _, _⟩) (v := ?_) rfl (by kernel_rfl) (by kernel_rfl) (by kernel_rfl) (fun _ _ _ h => h) (Or.inl ⟨by kernel_rfl, ?_⟩) (by assumption) ?_
   rotate_left 1
   ·((intro w hSw; (try dsimp only at hSw); go_simp) <;> (try with_reducible rfl))
   (try simp only [Act.put, List.setIfInBounds_toArray, List.set_cons_zero, List.set_cons_succ])
   refine wpAnyH_ready (rs := [4]) (by kernel_rfl) (by simp) ?_
   refine AllReadyH.cons (o := ⟨some 30, _, _, _, _, _⟩) rfl (fun K hK => ?_) AllReadyH.nil
   go_simp
   refine (HRO.out _ HDV.out).mono ?_
   rintro e v1 ⟨rfl, hb⟩
   have HBV_1 := Lib.hid (Below.call HBV.out hb)
   have HDV_1 := Lib.hid (HDV.out.then hb)
   have r0_1 := keep_cell hb r0'
   have z0_1 := (hb.frozen (p := ⟨w.heap.size + 1, 0, none⟩) (World.block_lt_of_cell? _ _ r0')).trans z0'
   have r1_1 := keep_cell hb r1'
   have z1_1 := (hb.frozen (p := ⟨w.heap.size + 1, 1, none⟩) (World.block_lt_of_cell? _ _ r1')).trans z1'
   go_wp2_with fail
   refine hK.out _ _ ?_ (fun hHeld => ?_)
   ·exact ⟨keep_cell hb hHeld.1, keep_cell hb hHeld.2.1, keep_cell hb hHeld.2.2.1, keep_cell hb hHeld.2.2.2.1, keep_cell hb hHeld.2.2.2.2.1, keep_cell hb hHeld.2.2.2.2.2.1, keep_cell hb hHeld.2.2.2.2.2.2.1, keep_cell hb hHeld.2.2.2.2.2.2.2⟩
   clear hK K hb HBV HDV r0' z0' r1' z1'
   (try simp only [Act.put, List.setIfInBounds_toArray, List.set_cons_zero, List.set_cons_succ])
   refine wpAnyH_ready (rs := [7]) (by kernel_rfl) (by simp) ?_
   refine AllReadyH.cons (o := ⟨some 33, _, _, _, _, _⟩) rfl (fun K hK => ?_) AllReadyH.nil
   go_simp
   refine (HC.out _ HDV_1.out).mono ?_
   rintro e v2 ⟨rfl, hb⟩
   have HBV_2 := Lib.hid (Below.call HBV_1.out hb)
   have HDV_2 := Lib.hid (HDV_1.out.then hb)
   have r0_2 := keep_cell hb r0_1
   have z0_2 := (hb.frozen (p := ⟨w.heap.size + 1, 0, none⟩) (World.block_lt_of_cell? _ _ r0_1)).trans z0_1
   have r1_2 := keep_cell hb r1_1
   have z1_2 := (hb.frozen (p := ⟨w.heap.size + 1, 1, none⟩) (World.block_lt_of_cell? _ _ r1_1)).trans z1_1
   go_wp2_with fail
   refine hK.out _ _ ?_ (fun hHeld => ?_)
   ·exact ⟨keep_cell hb hHeld.1, keep_cell hb hHeld.2.1, keep_cell hb hHeld.2.2.1, keep_cell hb hHeld.2.2.2.1, keep_cell hb hHeld.2.2.2.2.1, keep_cell hb hHeld.2.2.2.2.2.1, keep_cell hb hHeld.2.2.2.2.2.2.1, keep_cell hb hHeld.2.2.2.2.2.2.2⟩
   clear hK K hb HBV_1 HDV_1 r0_1 z0_1 r1_1 z1_1
   (try simp only [Act.put, List.setIfInBounds_toArray, List.set_cons_zero, List.set_cons_succ])
   refine wpAnyH_take (i := 8) (oi := ⟨some 34, _, _, _, _, _⟩) (v := ?_) rfl (by kernel_rfl) (by kernel_rfl) (by kernel_rfl) (fun _ _ _ h => h) (Or.inl ⟨by kernel_rfl, ?_⟩) (by assumption) ?_
   rotate_left 1
   ·((intro w hSw; (try dsimp only at hSw); go_simp) <;> (try with_reducible rfl))
   (try simp only [Act.put, List.setIfInBounds_toArray, List.set_cons_zero, List.set_cons_succ])
   refine wpAnyH_take (i := 9) (oi := ⟨some 35, _, _, _, _, _⟩) (v := ?_) rfl (by kernel_rfl) (by kernel_rfl) (by kernel_rfl) (fun _ _ _ h => h) (Or.inl ⟨by kernel_rfl, ?_⟩) (by assumption) ?_
   rotate_left 1
   ·((intro w hSw; (try dsimp only at hSw); go_simp) <;> (try with_reducible rfl))
   (try simp only [Act.put, List.setIfInBounds_toArray, List.set_cons_zero, List.set_cons_succ])
   refine wpAnyH_ready (rs := [10]) (by kernel_rfl) (by simp) ?_
   refine AllReadyH.cons (o := ⟨none, _, _, _, _, _⟩) rfl (fun K hK => ?_) AllReadyH.nil
   go_simp
   refine hK.out _ _ ?_ (fun hHeld => ?_)
   ·exact ⟨st_other (st_other (hHeld.1) (ad_nf (by omega))) (ad_nf (by omega)), st_other (st_other (hHeld.2.1) (ad_nf (by omega))) (ad_nf (by omega)), st_other (st_other (hHeld.2.2.1) (ad_nf (by omega))) (ad_nf (by omega)), st_other (st_other (hHeld.2.2.2.1) (ad_nf (by omega))) (ad_nf (by omega)), st_other (st_other (hHeld.2.2.2.2.1) (ad_nf (by omega))) (ad_nf (by omega)), st_other (st_other (hHeld.2.2.2.2.2.1) (ad_nf (by omega))) (ad_nf (by omega)), st_other (st_other (hHeld.2.2.2.2.2.2.1) (ad_nf (by omega))) (ad_nf (by omega)), st_other (st_other (hHeld.2.2.2.2.2.2.2) (ad_nf (by omega))) (ad_nf (by omega))⟩
   clear hK K
   (try simp only [Act.put, List.setIfInBounds_toArray, List.set_cons_zero, List.set_cons_succ])
   refine wpAnyH_take (i := 11) (oi := ⟨some 5, _, _, _, _, _⟩) (v := ?_) rfl (by kernel_rfl) (by kernel_rfl) (by kernel_rfl) (fun _ _ _ h => h) (Or.inl ⟨by kernel_rfl, ?_⟩) (by assumption) ?_
   rotate_left 1
   ·((intro w hSw; (try dsimp only at hSw); go_simp) <;> (try with_reducible rfl))
   (try simp only [Act.put, List.setIfInBounds_toArray, List.set_cons_zero, List.set_cons_succ])
   refine wpAnyH_done (by kernel_rfl) ?_ _
   go_wp2
   have s0 : ((v2.setCell ⟨w.heap.size + 1, 0, none⟩ (.int .i64 t1)).setCell ⟨w.heap.size + 1, 1, none⟩ (.int .i64 t2)).cell? ⟨w.heap.size + 1, 0, none⟩ = some (.int .i64 t1) := st_other (st_same r0_2) (by simp)
   have s1 : ((v2.setCell ⟨w.heap.size + 1, 0, none⟩ (.int .i64 t1)).setCell ⟨w.heap.size + 1, 1, none⟩ (.int .i64 t2)).cell? ⟨w.heap.size + 1, 1, none⟩ = some (.int .i64 t2) := st_same (st_other r1_2 (by simp))
   exact bodyPost_ret (v := .tuple #[.agg #[.int .i64 t1, .int .i64 t2], .int .i64 t3]) (by simp [results, Tryz.results206, go_sem, s0, s1]) rfl ⟨rfl, Below.st (Below.st HBV_2.out (by show w.heap.size ≤ w.heap.size + 1; omega)) (by show w.heap.size ≤ w.heap.size + 1; omega)⟩
 ·rw [if_neg he]
  have q1 : (err != 0) = true := by rw [bne_iff_ne]; exact he
  clear HOK hd he
  obtain ⟨a, b, c, dd⟩ := p
  dsimp only at *
  unfold rchVal
  dsimp only
  go_enter Tryz.func206, Tryz.ntmps206
  go_wp2_with fail
  refine (HP.out _ (HD.out.then (Below.al (Below.al (Below.refl _ _) _) _))).mono ?_
  rintro e w1 ⟨rfl, hb1⟩
  have c0 : w1.cell? ⟨w.heap.size, 0, none⟩ = some (.slice d.bA d.bn d.bc) := keep_cell hb1 (by simp [go_sem])
  have c1 : w1.cell? ⟨w.heap.size, 1, none⟩ = some (.slice d.pA d.pn d.pc) := keep_cell hb1 (by simp [go_sem])
  have c2 : w1.cell? ⟨w.heap.size, 2, none⟩ = some (.slice d.rA d.rn d.rc) := keep_cell hb1 (by simp [go_sem])
  have c3 : w1.cell? ⟨w.heap.size, 3, none⟩ = some (.int .i64 d.arms) := keep_cell hb1 (by simp [go_sem])
  have r0 : w1.cell? ⟨w.heap.size + 1, 0, none⟩ = some (.int .i64 0) := keep_cell hb1 (by simp [go_sem])
  have z0 : w1.frozen? ⟨w.heap.size + 1, 0, none⟩ = false := by rw [hb1.frozen (p := ⟨w.heap.size + 1, 0, none⟩) (by simp [go_sem])]; simp [go_sem]
  have r1 : w1.cell? ⟨w.heap.size + 1, 1, none⟩ = some (.int .i64 0) := keep_cell hb1 (by simp [go_sem])
  have z1 : w1.frozen? ⟨w.heap.size + 1, 1, none⟩ = false := by rw [hb1.frozen (p := ⟨w.heap.size + 1, 1, none⟩) (by simp [go_sem])]; simp [go_sem]
  have hs := hb1.size
  simp at hs
  have HB1 := Lib.hid (Below.call (Below.al (Below.al (Below.refl _ _) (.cells #[.slice d.bA d.bn d.bc, .slice d.pA d.pn d.pc, .slice d.rA d.rn d.rc, .int .i64 d.arms] 26)) (.cells #[.int .i64 0, .int .i64 0] 134)) hb1)
  clear hb1
  go_upto_region 3 with fail
  obtain ⟨W, hW⟩ : ∃ W, W = w1.alloc (.cells #[.int .i64 a, .int .i64 b, .int .i64 c, .int .i64 dd] 153) := ⟨_, rfl⟩
  rw [← hW]
  have hb := (show Below w1.heap.size w1 W by rw [hW]; exact Below.al (Below.refl _ _) _)
  have HBW := Lib.hid (Below.call HB1.out hb)
  have s0 := keep_cell hb r0
  have s1 := keep_cell hb r1
  have y0 := (hb.frozen (p := ⟨w.heap.size + 1, 0, none⟩) (World.block_lt_of_cell? _ _ r0)).trans z0
  have y1 := (hb.frozen (p := ⟨w.heap.size + 1, 1, none⟩) (World.block_lt_of_cell? _ _ r1)).trans z1
  clear hb hW HB1 c0 c1 c2 c3 r0 r1 z0 z1
  go_wp2
  exact bodyPost_ret (v := .tuple #[.agg #[.int .i64 0, .int .i64 0], .int .i64 err]) (by simp [results, Tryz.results206, go_sem, s0, s1]) rfl ⟨rfl, Below.st (Below.st HBW.out (by show w.heap.size ≤ w.heap.size + 1; omega)) (by show w.heap.size ≤ w.heap.size + 1; omega)⟩
end Go.Proofs.YtmecohdedghiaaaGreatDoor
namespace Go.Proofs.YtmecohdedghiaaaGreatDoor
open Go.RowKit
/-- The error of a middle. -/
noncomputable def atE (d : Dk) (id : Int) : Int := if (partV d id).2 = 0 then (if (partV d id).1.a = 3 then 1 else 0) else (partV d id).2
/-- A value is the middle of an id. -/
def AtM (d : Dk) (id : Int) (m : Nat) : Prop := (atE d id ≠ 0 → m = 0) ∧ (atE d id = 0 → Mid (rkOf d (partV d id).1).x (rkOf d (partV d id).1).p (cf (partV d id).1.d) m)
set_option maxRecDepth 100000 in
set_option maxHeartbeats 4000000 in
theorem rat_any (d : Dk) (p : Q4) (w : World) (hd : d.In w w.heap.size) (hp : Lies d p) : Calls Tryz.prog 245 #[d.v, p.v] w fun e w' => ∃ m, e = .returned (.tuple #[.float .f64 m, .float .f64 (rkOf d p).r]) ∧ Mid (rkOf d p).x (rkOf d p).p (cf p.d) m ∧ Below w.heap.size w w' := by
 obtain ⟨pa, pb, pc', pd⟩ := p
 have HD := Lib.hid hd
 have e0 := hd.b.len
 have e1 := hd.p.len
 have e2 := hd.r.len
 unfold Lies at hp
 dsimp only at hp
 obtain ⟨k, rfl⟩ : ∃ k : Nat, pb = (k : Int) := ⟨pb.toNat, by omega⟩
 rw [Int.toNat_natCast] at hp
 have T : rkOf d ⟨pa, k, pc', pd⟩ = if pa = 1 then rkPl (d.pl.getD k KP.dflt) else d.rl.getD k KR.dflt := by unfold rkOf; dsimp only; rw [Int.toNat_natCast]
 rw [T]
 clear T
 obtain ⟨bA, bn, bc, bl, pA, pn, pc, pl, rA, rn, rc, rl, arms⟩ := d
 dsimp only at *
 subst e0 e1 e2
 clear hd
 have hsf := fun (w : World) (a : Addr) (m : Mode) (b : Nat) => run_store_float (P := Tryz.prog) (w := w) (a := a) (m := m) .f64 b
 have hm := fun x y w => mul_run x y w
 have ha := fun x y w => add_run' x y w
 rcases hp with ⟨rfl, _, hl⟩ | ⟨rfl, _, hl⟩
 ·rw [if_pos rfl]
  have hb0 := Below.al (Below.al (Below.refl w.heap.size w) (.cells #[.slice bA bl.length bc, .slice pA pl.length pc, .slice rA rl.length rc, .int .i64 arms] 26)) (.cells #[.int .i64 1, .int .i64 k, .int .i64 pc', .int .i64 pd] 153)
  obtain ⟨w0, hw0⟩ : ∃ w0, w0 = (w.alloc (.cells #[.slice bA bl.length bc, .slice pA pl.length pc, .slice rA rl.length rc, .int .i64 arms] 26)).alloc (.cells #[.int .i64 1, .int .i64 k, .int .i64 pc', .int .i64 pd] 153) := ⟨_, rfl⟩
  rw [← hw0] at hb0
  obtain ⟨b, off, rfl, hb, hc, hcell⟩ := plate_cells (HD.out.p.below hb0) (by dsimp only; omega)
  obtain ⟨c0, c1, c2, c3, c4, c5, c6⟩ := hcell k hl
  clear hcell
  dsimp only at *
  generalize pl.getD k KP.dflt = q at *
  obtain ⟨a1, a2, X, P, R, cap, sA, sn, sc, st⟩ := q
  dsimp only at *
  unfold rkPl
  rw [hw0] at c0 c1 c2 c3 c4 c5 c6 hb0
  have HB0 := Lib.hid hb0
  clear hb0 hw0
  go_enter Tryz.func245, Tryz.ntmps245
  go_wp2
  go_quiet (fail)
  go_wp2
  go_ret2
  exact ⟨_, rfl, mid_of _ _ _ _ _, below_drewN (by (repeat (first | exact Below.refl _ _ | (with_reducible refine Below.al ?_ _)))) _⟩
 ·rw [if_neg (by decide)]
  have hb0 := Below.al (Below.al (Below.refl w.heap.size w) (.cells #[.slice bA bl.length bc, .slice pA pl.length pc, .slice rA rl.length rc, .int .i64 arms] 26)) (.cells #[.int .i64 2, .int .i64 k, .int .i64 pc', .int .i64 pd] 153)
  obtain ⟨w0, hw0⟩ : ∃ w0, w0 = (w.alloc (.cells #[.slice bA bl.length bc, .slice pA pl.length pc, .slice rA rl.length rc, .int .i64 arms] 26)).alloc (.cells #[.int .i64 2, .int .i64 k, .int .i64 pc', .int .i64 pd] 153) := ⟨_, rfl⟩
  rw [← hw0] at hb0
  obtain ⟨b, off, rfl, hb, hc, hcell⟩ := rack_cells (HD.out.r.below hb0) (by dsimp only; omega)
  obtain ⟨c0, c1, c2, c3, c4⟩ := hcell k hl
  clear hcell
  dsimp only at *
  generalize rl.getD k KR.dflt = q at *
  obtain ⟨a1, a2, X, P, R⟩ := q
  dsimp only at *
  skip
  rw [hw0] at c0 c1 c2 c3 c4 hb0
  have HB0 := Lib.hid hb0
  clear hb0 hw0
  go_enter Tryz.func245, Tryz.ntmps245
  go_wp2
  go_quiet (fail)
  go_wp2
  go_ret2
  exact ⟨_, rfl, mid_of _ _ _ _ _, below_drewN (by (repeat (first | exact Below.refl _ _ | (with_reducible refine Below.al ?_ _)))) _⟩
end Go.Proofs.YtmecohdedghiaaaGreatDoor
