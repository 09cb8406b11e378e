/- The table of all parts' lanes: what the program answers. -/
import Derived.Test.YtmecohdedghiaaaDoorPc01
import Derived.Test.YtmecohdedghiaaaDoorPc02
import Derived.Deep.Cut
namespace Go.Proofs.YtmecohdedghiaaaDoor
open Go.RowKit
def mulS (x y : Nat) (w : World) : Nat := (Ieee.double.mul x y).getD (nd x y w)
def mulD (x y : Nat) : Nat := if (Ieee.double.mul x y).isSome then 0 else 1
def addS (x y : Nat) (w : World) : Nat := (Ieee.double.add x y).getD (nd x y w)
def addD (x y : Nat) : Nat := if (Ieee.double.add x y).isSome then 0 else 1
theorem mul_run (x y : Nat) (w : World) : (binOp .mul 50 (.float .f64 x) (.float .f64 y)).run Tryd.prog w = .ok (.float .f64 (mulS x y w)) (w.drewN (mulD x y)) := by
 unfold mulS mulD
 rcases he : Ieee.double.mul x y with _ | p
 ·have he' : FloatKind.f64.format.mul x y = none := he
  simp [binOp, Op.floatArith, he', Question.forced]
  exact ⟨rfl, rfl⟩
 ·exact run_float_arith (P := Tryd.prog) w .mul 50 .f64 _ _ _ he
theorem add_run' (x y : Nat) (w : World) : (binOp .add 50 (.float .f64 x) (.float .f64 y)).run Tryd.prog w = .ok (.float .f64 (addS x y w)) (w.drewN (addD x y)) := by
 unfold addS addD
 rcases he : Ieee.double.add x y with _ | p
 ·have he' : FloatKind.f64.format.add x y = none := he
  simp [binOp, Op.floatArith, he', Question.forced]
  exact ⟨rfl, rfl⟩
 ·exact run_float_arith (P := Tryd.prog) w .add 50 .f64 _ _ _ he
/-- The middle, where it is a number. -/
def midO (X P c : Nat) : Option Nat := (Ieee.double.mul c P).bind fun p => Ieee.double.add X p
/-- A value is the middle. -/
def Mid (X P c m : Nat) : Prop := match midO X P c with | some v => m = v | none => nanb m = true
theorem mid_of (X P c : Nat) (w w' : World) : Mid X P c (addS X (mulS c P w) w') := by
 unfold Mid midO mulS addS
 rcases hm : Ieee.double.mul c P with _ | p
 ·have hn : nan (nd c P w) := of_decide_eq_true (nd_nan c P w)
  have ha := add_none X (nd c P w) (.inr (.inl hn))
  show nanb ((Ieee.double.add X (nd c P w)).getD (nd X (nd c P w) w')) = true
  rw [show Ieee.double.add X (nd c P w) = none from ha]
  exact nd_nan _ _ _
 ·show match Ieee.double.add X p with | some v => (Ieee.double.add X p).getD (nd X p w') = v | none => nanb ((Ieee.double.add X p).getD (nd X p w')) = true
  rcases ha : Ieee.double.add X p with _ | q
  ·exact nd_nan _ _ _
  ·rfl
/-- What a middle covers: the first lane, the last one, the error. -/
def covV (l : List Nat) (X P R c : Nat) : Nat × Nat × Int := rch l ((midO X P c).getD 9221120237041090560) R
theorem cov_mid (l : List Nat) (X P R c m : Nat) (h : Mid X P c m) : rch l m R = covV l X P R c := by
 unfold Mid at h
 unfold covV
 rcases e : midO X P c with _ | v
 ·rw [e] at h
  have h' : nanb m = true := h
  have h9 : nanb 9221120237041090560 = true := by decide +kernel
  show rch l m R = rch l 9221120237041090560 R
  unfold rch
  rw [h', h9]
  simp
 ·rw [e] at h
  have h' : m = v := h
  rw [h']
  rfl
/-- A column's number as a float. -/
def cf (n : Int) : Nat := floatOfInt FloatKind.f64 n
abbrev Rk.v (q : Rk) : Value := .agg #[.int .i64 q.rows, .int .i64 q.cols, .float .f64 q.x, .float .f64 q.p, .float .f64 q.r]
set_option maxRecDepth 100000 in
set_option maxHeartbeats 2000000 in
theorem middle_any (q : Rk) (c : Int) (w : World) : Calls Tryd.prog 74 #[q.v, .int .i64 c] w fun e w' => ∃ m, e = .returned (.float .f64 m) ∧ Mid q.x q.p (cf c) m ∧ Below w.heap.size w w' := by
 obtain ⟨a, b, X, P, R⟩ := q
 have hm := fun x y w => mul_run x y w
 have ha := fun x y w => add_run' x y w
 go_enter Tryd.func74, Tryd.ntmps74
 go_wp2
 go_ret
 exact ⟨_, rfl, mid_of _ _ _ _ _, below_drewN (Below.al (Below.refl _ _) _) _⟩
set_option maxRecDepth 100000 in
set_option maxHeartbeats 2000000 in
theorem rackLike_any (q : Pl) (w : World) : Calls Tryd.prog 72 #[q.v] w fun e w' => e = .returned (.agg #[.int .i64 q.rows, .int .i64 q.cols, .float .f64 q.x, .float .f64 q.p, .float .f64 q.r]) ∧ Below w.heap.size w w' := by
 obtain ⟨a, b, X, P, R, cap, sA, sn, sc, st⟩ := q
 have hsf := fun (w : World) (a : Addr) (m : Mode) (b : Nat) => run_store_float (P := Tryd.prog) (w := w) (a := a) (m := m) .f64 b
 go_enter Tryd.func72, Tryd.ntmps72
 go_wp2
 refine bodyPost_ret (v := .agg #[.int .i64 a, .int .i64 b, .float .f64 X, .float .f64 P, .float .f64 R]) (by simp [results, Tryd.results72, go_sem]) rfl ⟨rfl, ?_⟩
 (repeat (first | exact Below.refl _ _ | (with_reducible refine Below.st ?_ (by simp <;> omega)) | (with_reducible refine Below.al ?_ _)))
set_option maxRecDepth 100000 in
set_option maxHeartbeats 2000000 in
theorem one_any (k : Int) (w : World) : Calls Tryd.prog 93 #[.int .i64 k] w fun e w' => e = .returned (.agg #[.int .i64 k, .int .i64 k]) ∧ Below w.heap.size w w' := by
 go_enter Tryd.func93, Tryd.ntmps93
 go_wp2
 refine bodyPost_ret (v := .agg #[.int .i64 k, .int .i64 k]) (by simp [results, Tryd.results93, go_sem]) rfl ⟨rfl, ?_⟩
 (repeat (first | exact Below.refl _ _ | (with_reducible refine Below.st ?_ (by simp <;> omega)) | (with_reducible refine Below.al ?_ _)))
set_option maxRecDepth 100000 in
set_option maxHeartbeats 4000000 in
theorem covered_any (v : Value) (xs : List Nat) (q : Rk) (c : Int) (w : World) (h : KF.IsL w w.heap.size v xs) (hr : q.r < 18446744073709551616) : Calls Tryd.prog 57 #[v, q.v, .int .i64 c] w fun e w' => e = .returned (rchVal (covV xs q.x q.p q.r (cf c))) ∧ Below w.heap.size w w' := by
 obtain ⟨a, b, X, P, R⟩ := q
 have HR := Lib.hid (fun m (hm : Mid X P (cf c) m) (w : World) (h : KF.IsL w w.heap.size v xs) => show Calls Tryd.prog 73 #[v, .float .f64 m, .float .f64 R] w fun e w' => e = .returned (rchVal (covV xs X P R (cf c))) ∧ Below w.heap.size w w' by
  have := reach_any v xs m R hr w h
  rwa [cov_mid xs X P R (cf c) m hm] at this)
 show Calls Tryd.prog 57 #[v, .agg #[.int .i64 a, .int .i64 b, .float .f64 X, .float .f64 P, .float .f64 R], .int .i64 c] w fun e w' => e = .returned (rchVal (covV xs X P R (cf c))) ∧ Below w.heap.size w w'
 generalize covV xs X P R (cf c) = t at *
 obtain ⟨t1, t2, t3⟩ := t
 unfold rchVal at *
 dsimp only at HR ⊢
 have HL := Lib.hid h
 clear h hr
 obtain ⟨w0, hw0⟩ : ∃ w0, w0 = (w.alloc (.cells #[.int .i64 a, .int .i64 b, .float .f64 X, .float .f64 P, .float .f64 R] 69)).alloc (.cells #[.int .i64 0, .int .i64 0] 101) := ⟨_, rfl⟩
 go_enter Tryd.func57, Tryd.ntmps57
 go_wp2_with fail
 rw [← hw0]
 have HB0 := Lib.hid (show Below w.heap.size w w0.drew by rw [hw0]; exact (Below.al (Below.al (Below.refl _ _) _) _).drew)
 have HL0 := Lib.hid (show KF.IsL w0.drew w0.drew.heap.size v xs from HL.out.then HB0.out)
 have c0 : w0.cell? ⟨w.heap.size, 0, none⟩ = some (.int .i64 a) := by rw [hw0]; simp
 have c1 : w0.cell? ⟨w.heap.size, 1, none⟩ = some (.int .i64 b) := by rw [hw0]; simp
 have c2 : w0.cell? ⟨w.heap.size, 2, none⟩ = some (.float .f64 X) := by rw [hw0]; simp
 have c3 : w0.cell? ⟨w.heap.size, 3, none⟩ = some (.float .f64 P) := by rw [hw0]; simp
 have c4 : w0.cell? ⟨w.heap.size, 4, none⟩ = some (.float .f64 R) := by rw [hw0]; simp
 have r0 : w0.drew.cell? ⟨w.heap.size + 1, 0, none⟩ = some (.int .i64 0) := by rw [hw0]; simp [go_sem]
 have r1 : w0.drew.cell? ⟨w.heap.size + 1, 1, none⟩ = some (.int .i64 0) := by rw [hw0]; simp [go_sem]
 have z0 : w0.drew.frozen? ⟨w.heap.size + 1, 0, none⟩ = false := by rw [hw0]; simp [go_sem]
 have z1 : w0.drew.frozen? ⟨w.heap.size + 1, 1, none⟩ = false := by rw [hw0]; simp [go_sem]
 clear hw0 HL
 refine wp_region_held_drew (S := fun w' => w'.cell? ⟨w.heap.size, 0, none⟩ = some (.int .i64 a) ∧ w'.cell? ⟨w.heap.size, 1, none⟩ = some (.int .i64 b) ∧ w'.cell? ⟨w.heap.size, 2, none⟩ = some (.float .f64 X) ∧ w'.cell? ⟨w.heap.size, 3, none⟩ = some (.float .f64 P) ∧ w'.cell? ⟨w.heap.size, 4, none⟩ = some (.float .f64 R)) (by kernel_rfl) ?_ (fun hHeld => ?_)
 ·exact ⟨c0, c1, c2, c3, c4⟩
 refine wpAnyH_take (i := 0) (oi := ⟨some 8, _, _, _, _, _⟩) (v := ?_) rfl (by kernel_rfl) (by kernel_rfl) (by kernel_rfl) (fun _ _ _ h => h) (Or.inl ⟨by kernel_rfl, ?_⟩) (by assumption) ?_
 rotate_left 1
 ·((intro w hSw; (try dsimp only at hSw); go_simp) <;> (try with_reducible rfl))
 (try simp only [Act.put, List.setIfInBounds_toArray, List.set_cons_zero, List.set_cons_succ])
 refine wpAnyH_take (i := 1) (oi := ⟨some 9, _, _, _, _, _⟩) (v := ?_) rfl (by kernel_rfl) (by kernel_rfl) (by kernel_rfl) (fun _ _ _ h => h) (Or.inl ⟨by kernel_rfl, ?_⟩) (by assumption) ?_
 rotate_left 1
 ·((intro w hSw; (try dsimp only at hSw); go_simp) <;> (try with_reducible rfl))
 (try simp only [Act.put, List.setIfInBounds_toArray, List.set_cons_zero, List.set_cons_succ])
 refine wpAnyH_take (i := 2) (oi := ⟨some 10, _, _, _, _, _⟩) (v := ?_) rfl (by kernel_rfl) (by kernel_rfl) (by kernel_rfl) (fun _ _ _ h => h) (Or.inl ⟨by kernel_rfl, ?_⟩) (by assumption) ?_
 rotate_left 1
 ·((intro w hSw; (try dsimp only at hSw); go_simp) <;> (try with_reducible rfl))
 (try simp only [Act.put, List.setIfInBounds_toArray, List.set_cons_zero, List.set_cons_succ])
 refine wpAnyH_take (i := 4) (oi := ⟨some 12, _, _, _, _, _⟩) (v := ?_) rfl (by kernel_rfl) (by kernel_rfl) (by kernel_rfl) (fun _ _ _ h => h) (Or.inl ⟨by kernel_rfl, ?_⟩) (by assumption) ?_
 rotate_left 1
 ·((intro w hSw; (try dsimp only at hSw); go_simp) <;> (try with_reducible rfl))
 (try simp only [Act.put, List.setIfInBounds_toArray, List.set_cons_zero, List.set_cons_succ])
 refine wpAnyH_take (i := 5) (oi := ⟨some 13, _, _, _, _, _⟩) (v := ?_) rfl (by kernel_rfl) (by kernel_rfl) (by kernel_rfl) (fun _ _ _ h => h) (Or.inl ⟨by kernel_rfl, ?_⟩) (by assumption) ?_
 rotate_left 1
 ·((intro w hSw; (try dsimp only at hSw); go_simp) <;> (try with_reducible rfl))
 (try simp only [Act.put, List.setIfInBounds_toArray, List.set_cons_zero, List.set_cons_succ])
 clear c0 c1 c2 c3 c4
 refine wpAnyH_ready (rs := [3]) (by kernel_rfl) (by simp) ?_
 refine AllReadyH.cons (o := ⟨some 11, _, _, _, _, _⟩) rfl (fun K hK => ?_) AllReadyH.nil
 go_simp
 refine (middle_any ⟨a, b, X, P, R⟩ c _).mono ?_
 rintro e v1 ⟨m, rfl, hm, hb⟩
 have HM := Lib.hid hm
 have HB1 := Lib.hid (Below.call HB0.out hb)
 have HL1 := Lib.hid (HL0.out.then hb)
 have k0 := keep_cell hb r0
 have k1 := keep_cell hb r1
 have y0 := (hb.frozen (p := ⟨w.heap.size + 1, 0, none⟩) (World.block_lt_of_cell? _ _ r0)).trans z0
 have y1 := (hb.frozen (p := ⟨w.heap.size + 1, 1, none⟩) (World.block_lt_of_cell? _ _ r1)).trans z1
 clear hm r0 r1 z0 z1
 go_wp2_with fail
 refine hK.out _ _ ?_ (fun hHeld => ?_)
 ·exact ⟨keep_cell hb hHeld.1, keep_cell hb hHeld.2.1, keep_cell hb hHeld.2.2.1, keep_cell hb hHeld.2.2.2.1, keep_cell hb hHeld.2.2.2.2⟩
 clear hK K hb
 (try simp only [Act.put, List.setIfInBounds_toArray, List.set_cons_zero, List.set_cons_succ])
 refine wpAnyH_ready (rs := [6]) (by kernel_rfl) (by simp) ?_
 refine AllReadyH.cons (o := ⟨some 14, _, _, _, _, _⟩) rfl (fun K hK => ?_) AllReadyH.nil
 go_simp
 refine (HR.out m HM.out v1 HL1.out).mono ?_
 rintro e v2 ⟨rfl, hb⟩
 have HB2 := Lib.hid (Below.call HB1.out hb)
 have j0 := keep_cell hb k0
 have j1 := keep_cell hb k1
 have x0 := (hb.frozen (p := ⟨w.heap.size + 1, 0, none⟩) (World.block_lt_of_cell? _ _ k0)).trans y0
 have x1 := (hb.frozen (p := ⟨w.heap.size + 1, 1, none⟩) (World.block_lt_of_cell? _ _ k1)).trans y1
 clear k0 k1 y0 y1 HL1 HB1
 go_wp2_with fail
 refine hK.out _ _ ?_ (fun hHeld => ?_)
 ·exact ⟨keep_cell hb hHeld.1, keep_cell hb hHeld.2.1, keep_cell hb hHeld.2.2.1, keep_cell hb hHeld.2.2.2.1, keep_cell hb hHeld.2.2.2.2⟩
 clear hK K hb
 (try simp only [Act.put, List.setIfInBounds_toArray, List.set_cons_zero, List.set_cons_succ])
 refine wpAnyH_take (i := 7) (oi := ⟨some 15, _, _, _, _, _⟩) (v := ?_) rfl (by kernel_rfl) (by kernel_rfl) (by kernel_rfl) (fun _ _ _ h => h) (Or.inl ⟨by kernel_rfl, ?_⟩) (by assumption) ?_
 rotate_left 1
 ·((intro w hSw; (try dsimp only at hSw); go_simp) <;> (try with_reducible rfl))
 (try simp only [Act.put, List.setIfInBounds_toArray, List.set_cons_zero, List.set_cons_succ])
 refine wpAnyH_take (i := 8) (oi := ⟨some 16, _, _, _, _, _⟩) (v := ?_) rfl (by kernel_rfl) (by kernel_rfl) (by kernel_rfl) (fun _ _ _ h => h) (Or.inl ⟨by kernel_rfl, ?_⟩) (by assumption) ?_
 rotate_left 1
 ·((intro w hSw; (try dsimp only at hSw); go_simp) <;> (try with_reducible rfl))
 (try simp only [Act.put, List.setIfInBounds_toArray, List.set_cons_zero, List.set_cons_succ])
 refine wpAnyH_ready (rs := [9]) (by kernel_rfl) (by simp) ?_
 refine AllReadyH.cons (o := ⟨none, _, _, _, _, _⟩) rfl (fun K hK => ?_) AllReadyH.nil
 go_simp
 refine hK.out _ _ ?_ (fun hHeld => ?_)
 ·exact ⟨st_other (st_other hHeld.1 (by simp)) (by simp), st_other (st_other hHeld.2.1 (by simp)) (by simp), st_other (st_other hHeld.2.2.1 (by simp)) (by simp), st_other (st_other hHeld.2.2.2.1 (by simp)) (by simp), st_other (st_other hHeld.2.2.2.2 (by simp)) (by simp)⟩
 clear hK K
 (try simp only [Act.put, List.setIfInBounds_toArray, List.set_cons_zero, List.set_cons_succ])
 refine wpAnyH_take (i := 10) (oi := ⟨some 7, _, _, _, _, _⟩) (v := ?_) rfl (by kernel_rfl) (by kernel_rfl) (by kernel_rfl) (fun _ _ _ h => h) (Or.inl ⟨by kernel_rfl, ?_⟩) (by assumption) ?_
 rotate_left 1
 ·((intro w hSw; (try dsimp only at hSw); go_simp) <;> (try with_reducible rfl))
 (try simp only [Act.put, List.setIfInBounds_toArray, List.set_cons_zero, List.set_cons_succ])
 refine wpAnyH_done (by kernel_rfl) ?_ _
 go_wp2
 have s0 : ((v2.setCell ⟨w.heap.size + 1, 0, none⟩ (.int .i64 t1)).setCell ⟨w.heap.size + 1, 1, none⟩ (.int .i64 t2)).cell? ⟨w.heap.size + 1, 0, none⟩ = some (.int .i64 t1) := st_other (st_same j0) (by simp)
 have s1 : ((v2.setCell ⟨w.heap.size + 1, 0, none⟩ (.int .i64 t1)).setCell ⟨w.heap.size + 1, 1, none⟩ (.int .i64 t2)).cell? ⟨w.heap.size + 1, 1, none⟩ = some (.int .i64 t2) := st_same (st_other j1 (by simp))
 exact bodyPost_ret (v := .tuple #[.agg #[.int .i64 t1, .int .i64 t2], .int .i64 t3]) (by simp [results, Tryd.results57, go_sem, s0, s1]) rfl ⟨rfl, Below.st (Below.st HB2.out (by show w.heap.size ≤ w.heap.size + 1; omega)) (by show w.heap.size ≤ w.heap.size + 1; omega)⟩
end Go.Proofs.YtmecohdedghiaaaDoor
namespace Go.Proofs.YtmecohdedghiaaaDoor
open Go.RowKit
/-- A plate as a rack. -/
def rkPl (q : Pl) : Rk := ⟨q.rows, q.cols, q.x, q.p, q.r⟩
/-- What a part lies on. -/
noncomputable def rkOf (d : Dk) (p : Q4) : Rk := if p.a = 1 then rkPl (d.pl.getD p.b.toNat KP.dflt) else d.rl.getD p.b.toNat KR.dflt
/-- A part of a well or a tip that is there. -/
def Lies (d : Dk) (p : Q4) : Prop := (p.a = 1 ∧ 0 ≤ p.b ∧ p.b.toNat < d.pl.length) ∨ (p.a = 2 ∧ 0 ≤ p.b ∧ p.b.toNat < d.rl.length)
theorem rkOf_ok {w : World} {d : Dk} (hd : d.In w w.heap.size) (p : Q4) (h : Lies d p) : (rkOf d p).r < 18446744073709551616 := by
 unfold rkOf
 rcases h with ⟨h, _, hl⟩ | ⟨h, _, hl⟩
 ·rw [if_pos h]
  exact (hd.p.okAt _ hl).2.2.2.2.1
 ·rw [if_neg (by omega)]
  exact (hd.r.okAt _ hl).2.2.2.2
set_option maxRecDepth 100000 in
set_option maxHeartbeats 4000000 in
theorem rackOf_any (d : Dk) (p : Q4) (w : World) (hd : d.In w w.heap.size) (hp : Lies d p) : Calls Tryd.prog 94 #[d.v, p.v] w fun e w' => e = .returned (rkOf d p).v ∧ Below w.heap.size w w' := by
 obtain ⟨pa, pb, pc', pd⟩ := p
 have HD := Lib.hid hd
 have e0 := hd.b.len
 have e1 := hd.p.len
 have e2 := hd.r.len
 unfold Lies at hp
 dsimp only at hp
 obtain ⟨k, rfl⟩ : ∃ k : Nat, pb = (k : Int) := ⟨pb.toNat, by omega⟩
 rw [Int.toNat_natCast] at hp
 have T : rkOf d ⟨pa, k, pc', pd⟩ = if pa = 1 then rkPl (d.pl.getD k KP.dflt) else d.rl.getD k KR.dflt := by unfold rkOf; dsimp only; rw [Int.toNat_natCast]
 rw [T]
 clear T
 obtain ⟨bA, bn, bc, bl, pA, pn, pc, pl, rA, rn, rc, rl, arms⟩ := d
 dsimp only at *
 subst e0 e1 e2
 clear hd
 have hsf := fun (w : World) (a : Addr) (m : Mode) (b : Nat) => run_store_float (P := Tryd.prog) (w := w) (a := a) (m := m) .f64 b
 rcases hp with ⟨rfl, _, hl⟩ | ⟨rfl, _, hl⟩
 ·rw [if_pos rfl]
  have hb0 := Below.al (Below.al (Below.al (Below.refl w.heap.size w) (.cells #[.slice bA bl.length bc, .slice pA pl.length pc, .slice rA rl.length rc, .int .i64 arms] 26)) (.cells #[.int .i64 1, .int .i64 k, .int .i64 pc', .int .i64 pd] 90)) (.cells #[.int .i64 0, .int .i64 0, .float .f64 0, .float .f64 0, .float .f64 0] 69)
  obtain ⟨w0, hw0⟩ : ∃ w0, w0 = ((w.alloc (.cells #[.slice bA bl.length bc, .slice pA pl.length pc, .slice rA rl.length rc, .int .i64 arms] 26)).alloc (.cells #[.int .i64 1, .int .i64 k, .int .i64 pc', .int .i64 pd] 90)).alloc (.cells #[.int .i64 0, .int .i64 0, .float .f64 0, .float .f64 0, .float .f64 0] 69) := ⟨_, rfl⟩
  rw [← hw0] at hb0
  obtain ⟨b, off, rfl, hb, hc, hcell⟩ := plate_cells (HD.out.p.below hb0) (by dsimp only; omega)
  obtain ⟨c0, c1, c2, c3, c4, c5, c6⟩ := hcell k hl
  have HRP := Lib.hid (fun w => rackLike_any (pl.getD k KP.dflt) w)
  clear hcell
  dsimp only at *
  generalize pl.getD k KP.dflt = q at *
  obtain ⟨a1, a2, X, P, R, cap, sA, sn, sc, st⟩ := q
  dsimp only at *
  unfold rkPl
  rw [hw0] at c0 c1 c2 c3 c4 c5 c6
  go_enter Tryd.func94, Tryd.ntmps94
  go_wp2_with fail
  refine (HRP.out _).mono ?_
  rintro e w1 ⟨rfl, hb1⟩
  have r0 : w1.cell? ⟨w.heap.size + 1 + 1, 0, none⟩ = some (.int .i64 0) := keep_cell hb1 (by simp [go_sem])
  have r1 : w1.cell? ⟨w.heap.size + 1 + 1, 1, none⟩ = some (.int .i64 0) := keep_cell hb1 (by simp [go_sem])
  have r2 : w1.cell? ⟨w.heap.size + 1 + 1, 2, none⟩ = some (.float .f64 0) := keep_cell hb1 (by simp [go_sem])
  have r3 : w1.cell? ⟨w.heap.size + 1 + 1, 3, none⟩ = some (.float .f64 0) := keep_cell hb1 (by simp [go_sem])
  have r4 : w1.cell? ⟨w.heap.size + 1 + 1, 4, none⟩ = some (.float .f64 0) := keep_cell hb1 (by simp [go_sem])
  have z0 : w1.frozen? ⟨w.heap.size + 1 + 1, 0, none⟩ = false := by rw [hb1.frozen (p := ⟨w.heap.size + 1 + 1, 0, none⟩) (by simp [go_sem])]; simp [go_sem]
  have z1 : w1.frozen? ⟨w.heap.size + 1 + 1, 1, none⟩ = false := by rw [hb1.frozen (p := ⟨w.heap.size + 1 + 1, 1, none⟩) (by simp [go_sem])]; simp [go_sem]
  have z2 : w1.frozen? ⟨w.heap.size + 1 + 1, 2, none⟩ = false := by rw [hb1.frozen (p := ⟨w.heap.size + 1 + 1, 2, none⟩) (by simp [go_sem])]; simp [go_sem]
  have z3 : w1.frozen? ⟨w.heap.size + 1 + 1, 3, none⟩ = false := by rw [hb1.frozen (p := ⟨w.heap.size + 1 + 1, 3, none⟩) (by simp [go_sem])]; simp [go_sem]
  have z4 : w1.frozen? ⟨w.heap.size + 1 + 1, 4, none⟩ = false := by rw [hb1.frozen (p := ⟨w.heap.size + 1 + 1, 4, none⟩) (by simp [go_sem])]; simp [go_sem]
  rw [hw0] at hb0
  have HB1 := Lib.hid (Below.call hb0 hb1)
  clear hb1 hb0 hw0 c0 c1 c2 c3 c4 c5 c6
  go_wp2
  refine bodyPost_ret (v := .agg #[.int .i64 a1, .int .i64 a2, .float .f64 X, .float .f64 P, .float .f64 R]) (by simp [results, Tryd.results94, go_sem, r0, r1, r2, r3, r4]) rfl ⟨rfl, ?_⟩
  exact Below.st (Below.st (Below.st (Below.st (Below.st HB1.out (by show w.heap.size ≤ w.heap.size + 1 + 1; omega)) (by show w.heap.size ≤ w.heap.size + 1 + 1; omega)) (by show w.heap.size ≤ w.heap.size + 1 + 1; omega)) (by show w.heap.size ≤ w.heap.size + 1 + 1; omega)) (by show w.heap.size ≤ w.heap.size + 1 + 1; omega)
 ·rw [if_neg (by decide)]
  have hb0 := Below.al (Below.al (Below.al (Below.refl w.heap.size w) (.cells #[.slice bA bl.length bc, .slice pA pl.length pc, .slice rA rl.length rc, .int .i64 arms] 26)) (.cells #[.int .i64 2, .int .i64 k, .int .i64 pc', .int .i64 pd] 90)) (.cells #[.int .i64 0, .int .i64 0, .float .f64 0, .float .f64 0, .float .f64 0] 69)
  obtain ⟨w0, hw0⟩ : ∃ w0, w0 = ((w.alloc (.cells #[.slice bA bl.length bc, .slice pA pl.length pc, .slice rA rl.length rc, .int .i64 arms] 26)).alloc (.cells #[.int .i64 2, .int .i64 k, .int .i64 pc', .int .i64 pd] 90)).alloc (.cells #[.int .i64 0, .int .i64 0, .float .f64 0, .float .f64 0, .float .f64 0] 69) := ⟨_, rfl⟩
  rw [← hw0] at hb0
  obtain ⟨b, off, rfl, hb, hc, hcell⟩ := rack_cells (HD.out.r.below hb0) (by dsimp only; omega)
  obtain ⟨c0, c1, c2, c3, c4⟩ := hcell k hl
  clear hcell
  dsimp only at *
  generalize rl.getD k KR.dflt = q at *
  obtain ⟨a1, a2, X, P, R⟩ := q
  dsimp only at *
  rw [hw0] at c0 c1 c2 c3 c4 hb0
  have HB0 := Lib.hid hb0
  clear hb0 hw0
  go_enter Tryd.func94, Tryd.ntmps94
  go_wp2
  refine bodyPost_ret (v := .agg #[.int .i64 a1, .int .i64 a2, .float .f64 X, .float .f64 P, .float .f64 R]) (by simp [results, Tryd.results94, go_sem]) rfl ⟨rfl, ?_⟩
  (repeat (first | exact Below.refl _ _ | (with_reducible refine Below.st ?_ (by simp <;> omega)) | (with_reducible refine Below.al ?_ _)))
end Go.Proofs.YtmecohdedghiaaaDoor
namespace Go.Proofs.YtmecohdedghiaaaDoor
open Go.RowKit
theorem ad_nf {b b' o o' : Nat} (h : b ≠ b' ∨ o ≠ o') : (⟨b, o, none⟩ : Addr) ≠ ⟨b', o', none⟩ := by
 intro e
 cases e
 rcases h with h | h <;> exact h rfl
theorem part_lies (d : Dk) (p : Q4) (hp : p ∈ partsK d) : (p.a = 3 ∧ 0 ≤ p.b) ∨ Lies d p := by
 have hp0 := hp
 unfold partsK at hp
 by_cases hz : dchk d = 0
 ·rw [if_pos hz] at hp
  unfold partsL partsU unitsL at hp
  obtain ⟨u, hu, hp⟩ := List.mem_flatMap.1 hp
  have hpar : p.a = u.a ∧ p.b = u.b := by
   unfold unitParts at hp
   obtain ⟨i, _, rfl⟩ := List.mem_map.1 hp
   exact ⟨rfl, rfl⟩
  rcases List.mem_append.1 hu with hu | hu
  ·rcases List.mem_append.1 hu with hu | hu
   ·obtain ⟨i, hi, rfl⟩ := List.mem_map.1 hu
    have hi := List.mem_range.1 hi
    have e1 : p.a = 1 := hpar.1
    have e2 : p.b = (i : Int) := hpar.2
    exact .inr (.inl ⟨e1, by omega, by rw [e2, Int.toNat_natCast]; exact hi⟩)
   ·obtain ⟨i, hi, rfl⟩ := List.mem_map.1 hu
    have hi := List.mem_range.1 hi
    have e1 : p.a = 2 := hpar.1
    have e2 : p.b = (i : Int) := hpar.2
    exact .inr (.inr ⟨e1, by omega, by rw [e2, Int.toNat_natCast]; exact hi⟩)
  ·obtain ⟨i, hi, rfl⟩ := List.mem_map.1 hu
   have e1 : p.a = 3 := hpar.1
   have e2 : p.b = (i : Int) := hpar.2
   exact .inl ⟨e1, by omega⟩
 ·rw [if_neg hz] at hp
  cases hp
/-- The lanes of a part: the first one, the last one, the error. -/
noncomputable def spnP (d : Dk) (p : Q4) : Nat × Nat × Int := if p.a = 3 then (p.b.toNat, p.b.toNat, 0) else covV d.bl (rkOf d p).x (rkOf d p).p (rkOf d p).r (cf p.d)
/-- The lanes of an id. -/
noncomputable def spanV (d : Dk) (id : Int) : Nat × Nat × Int := if (partV d id).2 = 0 then spnP d (partV d id).1 else (0, 0, (partV d id).2)
set_option maxRecDepth 100000 in
set_option maxHeartbeats 4000000 in
theorem span_any (d : Dk) (id : Int) (hid : fits id) (w : World) (hd : d.In w w.heap.size) : Calls Tryd.prog 84 #[d.v, .int .i64 id] w fun e w' => e = .returned (rchVal (spanV d id)) ∧ Below w.heap.size w w' := by
 have HD := Lib.hid hd
 have HP := Lib.hid (fun w h => part_any d id hid w h)
 have HOK := Lib.hid (partV_ok d id)
 have HS := Lib.hid (show spanV d id = if (partV d id).2 = 0 then spnP d (partV d id).1 else (0, 0, (partV d id).2) from rfl)
 rw [HS.out]
 clear HS
 generalize partV d id = t at *
 obtain ⟨p, err⟩ := t
 dsimp only at *
 unfold partVal at HP
 dsimp only at HP
 by_cases he : err = 0
 ·subst he
  rw [if_pos rfl]
  obtain ⟨hok, hmem, hz, _, _⟩ := HOK.out rfl
  clear HOK
  rcases part_lies d p hmem with ⟨h3, hb0⟩ | hl
  ·have T : spnP d p = (p.b.toNat, p.b.toNat, 0) := by unfold spnP; rw [if_pos h3]
   rw [T]
   have q3 : (p.a == 3) = true := by rw [beq_iff_eq]; exact h3
   have HB := Lib.hid (show ((p.b.toNat : Nat) : Int) = p.b by omega)
   clear T h3 hok hmem hz hd hb0
   have HO := Lib.hid (fun k w => one_any k w)
   obtain ⟨a, b, c, dd⟩ := p
   dsimp only at *
   unfold rchVal
   dsimp only
   rw [HB.out]
   go_enter Tryd.func84, Tryd.ntmps84
   go_wp2_with fail
   refine (HP.out _ (HD.out.then (Below.al (Below.al (Below.refl _ _) _) _))).mono ?_
   rintro e w1 ⟨rfl, hb1⟩
   have c0 : w1.cell? ⟨w.heap.size, 0, none⟩ = some (.slice d.bA d.bn d.bc) := keep_cell hb1 (by simp [go_sem])
   have c1 : w1.cell? ⟨w.heap.size, 1, none⟩ = some (.slice d.pA d.pn d.pc) := keep_cell hb1 (by simp [go_sem])
   have c2 : w1.cell? ⟨w.heap.size, 2, none⟩ = some (.slice d.rA d.rn d.rc) := keep_cell hb1 (by simp [go_sem])
   have c3 : w1.cell? ⟨w.heap.size, 3, none⟩ = some (.int .i64 d.arms) := keep_cell hb1 (by simp [go_sem])
   have r0 : w1.cell? ⟨w.heap.size + 1, 0, none⟩ = some (.int .i64 0) := keep_cell hb1 (by simp [go_sem])
   have z0 : w1.frozen? ⟨w.heap.size + 1, 0, none⟩ = false := by rw [hb1.frozen (p := ⟨w.heap.size + 1, 0, none⟩) (by simp [go_sem])]; simp [go_sem]
   have r1 : w1.cell? ⟨w.heap.size + 1, 1, none⟩ = some (.int .i64 0) := keep_cell hb1 (by simp [go_sem])
   have z1 : w1.frozen? ⟨w.heap.size + 1, 1, none⟩ = false := by rw [hb1.frozen (p := ⟨w.heap.size + 1, 1, none⟩) (by simp [go_sem])]; simp [go_sem]
   have hs := hb1.size
   simp at hs
   have HB1 := Lib.hid (Below.call (Below.al (Below.al (Below.refl _ _) (.cells #[.slice d.bA d.bn d.bc, .slice d.pA d.pn d.pc, .slice d.rA d.rn d.rc, .int .i64 d.arms] 26)) (.cells #[.int .i64 0, .int .i64 0] 101)) hb1)
   clear hb1
   go_wp2_with fail
   refine (HO.out _ _).mono ?_
   rintro e w2 ⟨rfl, hb2⟩
   have hb3 := Below.call (Below.al (Below.refl _ _) _) hb2
   have s0 := keep_cell hb3 r0
   have s1 := keep_cell hb3 r1
   have y0 := (hb3.frozen (p := ⟨w.heap.size + 1, 0, none⟩) (World.block_lt_of_cell? _ _ r0)).trans z0
   have y1 := (hb3.frozen (p := ⟨w.heap.size + 1, 1, none⟩) (World.block_lt_of_cell? _ _ r1)).trans z1
   have HB2 := Lib.hid (Below.call HB1.out hb3)
   clear hb2 hb3 r0 r1 z0 z1 c0 c1 c2 c3
   go_wp2
   exact bodyPost_ret (v := .tuple #[.agg #[.int .i64 b, .int .i64 b], .int .i64 0]) (by simp [results, Tryd.results84, go_sem, s0, s1]) rfl ⟨rfl, Below.st (Below.st HB2.out (by show w.heap.size ≤ w.heap.size + 1; omega)) (by show w.heap.size ≤ w.heap.size + 1; omega)⟩
  ·have h3 : p.a ≠ 3 := by rcases hl with h | h <;> omega
   have T : spnP d p = covV d.bl (rkOf d p).x (rkOf d p).p (rkOf d p).r (cf p.d) := by unfold spnP; rw [if_neg h3]
   rw [T]
   have q3 : (p.a == 3) = false := by rw [beq_eq_false_iff_ne]; exact h3
   have HRO := Lib.hid (fun w h => rackOf_any d p w h hl)
   have HLR := Lib.hid (fun (w : World) (h : d.In w w.heap.size) => rkOf_ok h p hl)
   have HC := Lib.hid (fun (w : World) (h : d.In w w.heap.size) => covered_any (.slice d.bA d.bn d.bc) d.bl (rkOf d p) p.d w h.b (HLR.out w h))
   clear T h3 hok hmem hz hd hl HLR
   generalize covV d.bl (rkOf d p).x (rkOf d p).p (rkOf d p).r (cf p.d) = t at *
   generalize rkOf d p = q at *
   obtain ⟨t1, t2, t3⟩ := t
   unfold rchVal at *
   dsimp only at *
   go_enter Tryd.func84, Tryd.ntmps84
   go_wp2_with fail
   refine (HP.out _ (HD.out.then (Below.al (Below.al (Below.refl _ _) _) _))).mono ?_
   rintro e w1 ⟨rfl, hb1⟩
   have c0 : w1.cell? ⟨w.heap.size, 0, none⟩ = some (.slice d.bA d.bn d.bc) := keep_cell hb1 (by simp [go_sem])
   have c1 : w1.cell? ⟨w.heap.size, 1, none⟩ = some (.slice d.pA d.pn d.pc) := keep_cell hb1 (by simp [go_sem])
   have c2 : w1.cell? ⟨w.heap.size, 2, none⟩ = some (.slice d.rA d.rn d.rc) := keep_cell hb1 (by simp [go_sem])
   have c3 : w1.cell? ⟨w.heap.size, 3, none⟩ = some (.int .i64 d.arms) := keep_cell hb1 (by simp [go_sem])
   have r0 : w1.cell? ⟨w.heap.size + 1, 0, none⟩ = some (.int .i64 0) := keep_cell hb1 (by simp [go_sem])
   have z0 : w1.frozen? ⟨w.heap.size + 1, 0, none⟩ = false := by rw [hb1.frozen (p := ⟨w.heap.size + 1, 0, none⟩) (by simp [go_sem])]; simp [go_sem]
   have r1 : w1.cell? ⟨w.heap.size + 1, 1, none⟩ = some (.int .i64 0) := keep_cell hb1 (by simp [go_sem])
   have z1 : w1.frozen? ⟨w.heap.size + 1, 1, none⟩ = false := by rw [hb1.frozen (p := ⟨w.heap.size + 1, 1, none⟩) (by simp [go_sem])]; simp [go_sem]
   have hs := hb1.size
   simp at hs
   have HB1 := Lib.hid (Below.call (Below.al (Below.al (Below.refl _ _) (.cells #[.slice d.bA d.bn d.bc, .slice d.pA d.pn d.pc, .slice d.rA d.rn d.rc, .int .i64 d.arms] 26)) (.cells #[.int .i64 0, .int .i64 0] 101)) hb1)
   clear hb1
   obtain ⟨G, hG⟩ : ∃ G, G = w1.heap.size := ⟨_, rfl⟩
   have hne : w.heap.size + 1 < G := by omega
   go_upto_region 6 with fail
   rw [← hG]
   obtain ⟨W, hW⟩ : ∃ W, W = w1.alloc (.cells #[.int .i64 p.a, .int .i64 p.b, .int .i64 p.c, .int .i64 p.d] 90) := ⟨_, rfl⟩
   rw [← hW]
   have hb := (show Below w1.heap.size w1 W by rw [hW]; exact Below.al (Below.refl _ _) _)
   have HBW := Lib.hid (Below.call HB1.out hb)
   have c0' : W.cell? ⟨w.heap.size, 0, none⟩ = some (.slice d.bA d.bn d.bc) := keep_cell hb c0
   have c1' : W.cell? ⟨w.heap.size, 1, none⟩ = some (.slice d.pA d.pn d.pc) := keep_cell hb c1
   have c2' : W.cell? ⟨w.heap.size, 2, none⟩ = some (.slice d.rA d.rn d.rc) := keep_cell hb c2
   have c3' : W.cell? ⟨w.heap.size, 3, none⟩ = some (.int .i64 d.arms) := keep_cell hb c3
   have r0' : W.cell? ⟨w.heap.size + 1, 0, none⟩ = some (.int .i64 0) := keep_cell hb r0
   have z0' : W.frozen? ⟨w.heap.size + 1, 0, none⟩ = false := (hb.frozen (p := ⟨w.heap.size + 1, 0, none⟩) (World.block_lt_of_cell? _ _ r0)).trans z0
   have r1' : W.cell? ⟨w.heap.size + 1, 1, none⟩ = some (.int .i64 0) := keep_cell hb r1
   have z1' : W.frozen? ⟨w.heap.size + 1, 1, none⟩ = false := (hb.frozen (p := ⟨w.heap.size + 1, 1, none⟩) (World.block_lt_of_cell? _ _ r1)).trans z1
   have p0 : W.cell? ⟨G, 0, none⟩ = some (.int .i64 p.a) := by rw [hW, hG]; simp
   have p1 : W.cell? ⟨G, 1, none⟩ = some (.int .i64 p.b) := by rw [hW, hG]; simp
   have p2 : W.cell? ⟨G, 2, none⟩ = some (.int .i64 p.c) := by rw [hW, hG]; simp
   have p3 : W.cell? ⟨G, 3, none⟩ = some (.int .i64 p.d) := by rw [hW, hG]; simp
   clear hb hW HB1 c0 c1 c2 c3 r0 r1 z0 z1
   have HBV := Lib.hid (show Below w.heap.size w W.drew from HBW.out.drew)
   have HDV := Lib.hid (show d.In W.drew W.drew.heap.size from HD.out.then HBV.out)
   clear hG hs HBW
   refine wp_region_held_drew (S := fun w' => w'.cell? ⟨w.heap.size, 0, none⟩ = some (.slice d.bA d.bn d.bc) ∧ w'.cell? ⟨w.heap.size, 1, none⟩ = some (.slice d.pA d.pn d.pc) ∧ w'.cell? ⟨w.heap.size, 2, none⟩ = some (.slice d.rA d.rn d.rc) ∧ w'.cell? ⟨w.heap.size, 3, none⟩ = some (.int .i64 d.arms) ∧ w'.cell? ⟨G, 0, none⟩ = some (.int .i64 p.a) ∧ w'.cell? ⟨G, 1, none⟩ = some (.int .i64 p.b) ∧ w'.cell? ⟨G, 2, none⟩ = some (.int .i64 p.c) ∧ w'.cell? ⟨G, 3, none⟩ = some (.int .i64 p.d)) (by kernel_rfl) ?_ (fun hHeld => ?_)
   ·exact ⟨c0', c1', c2', c3', p0, p1, p2, p3⟩
   clear c0' c1' c2' c3' p0 p1 p2 p3
   refine wpAnyH_take (i := 0) (oi := ⟨some 26, _, _, _, _, _⟩) (v := ?_) rfl (by kernel_rfl) (by kernel_rfl) (by kernel_rfl) (fun _ _ _ h => h) (Or.inl ⟨by kernel_rfl, ?_⟩) (by assumption) ?_
   rotate_left 1
   ·((intro w hSw; (try dsimp only at hSw); go_simp) <;> (try with_reducible rfl))
   (try simp only [Act.put, List.setIfInBounds_toArray, List.set_cons_zero, List.set_cons_succ])
   refine wpAnyH_take (i := 1) (oi := ⟨some 27, _, _, _, _, _⟩) (v := ?_) rfl (by kernel_rfl) (by kernel_rfl) (by kernel_rfl) (fun _ _ _ h => h) (Or.inl ⟨by kernel_rfl, ?_⟩) (by assumption) ?_
   rotate_left 1
   ·((intro w hSw; (try dsimp only at hSw); go_simp) <;> (try with_reducible rfl))
   (try simp only [Act.put, List.setIfInBounds_toArray, List.set_cons_zero, List.set_cons_succ])
   refine wpAnyH_take (i := 2) (oi := ⟨some 28, _, _, _, _, _⟩) (v := ?_) rfl (by kernel_rfl) (by kernel_rfl) (by kernel_rfl) (fun _ _ _ h => h) (Or.inl ⟨by kernel_rfl, ?_⟩) (by assumption) ?_
   rotate_left 1
   ·((intro w hSw; (try dsimp only at hSw); go_simp) <;> (try with_reducible rfl))
   (try simp only [Act.put, List.setIfInBounds_toArray, List.set_cons_zero, List.set_cons_succ])
   refine wpAnyH_take (i := 3) (oi := ⟨some 29, _, _, _, _, _⟩) (v := ?_) rfl (by kernel_rfl) (by kernel_rfl) (by kernel_rfl) (fun _ _ _ h => h) (Or.inl ⟨by kernel_rfl, ?_⟩) (by assumption) ?_
   rotate_left 1
   ·((intro w hSw; (try dsimp only at hSw); go_simp) <;> (try with_reducible rfl))
   (try simp only [Act.put, List.setIfInBounds_toArray, List.set_cons_zero, List.set_cons_succ])
   refine wpAnyH_take (i := 5) (oi := ⟨some 31, _, _, _, _, _⟩) (v := ?_) rfl (by kernel_rfl) (by kernel_rfl) (by kernel_rfl) (fun _ _ _ h => h) (Or.inl ⟨by kernel_rfl, ?_⟩) (by assumption) ?_
   rotate_left 1
   ·((intro w hSw; (try dsimp only at hSw); go_simp) <;> (try with_reducible rfl))
   (try simp only [Act.put, List.setIfInBounds_toArray, List.set_cons_zero, List.set_cons_succ])
   refine wpAnyH_take (i := 6) (oi := ⟨some 32, _, _, _, _, _⟩) (v := ?_) rfl (by kernel_rfl) (by kernel_rfl) (by kernel_rfl) (fun _ _ _ h => h) (Or.inl ⟨by kernel_rfl, ?_⟩) (by assumption) ?_
   rotate_left 1
   ·((intro w hSw; (try dsimp only at hSw); go_simp) <;> (try with_reducible rfl))
   (try simp only [Act.put, List.setIfInBounds_toArray, List.set_cons_zero, List.set_cons_succ])
   refine wpAnyH_ready (rs := [4]) (by kernel_rfl) (by simp) ?_
   refine AllReadyH.cons (o := ⟨some 30, _, _, _, _, _⟩) rfl (fun K hK => ?_) AllReadyH.nil
   go_simp
   refine (HRO.out _ HDV.out).mono ?_
   rintro e v1 ⟨rfl, hb⟩
   have HBV_1 := Lib.hid (Below.call HBV.out hb)
   have HDV_1 := Lib.hid (HDV.out.then hb)
   have r0_1 := keep_cell hb r0'
   have z0_1 := (hb.frozen (p := ⟨w.heap.size + 1, 0, none⟩) (World.block_lt_of_cell? _ _ r0')).trans z0'
   have r1_1 := keep_cell hb r1'
   have z1_1 := (hb.frozen (p := ⟨w.heap.size + 1, 1, none⟩) (World.block_lt_of_cell? _ _ r1')).trans z1'
   go_wp2_with fail
   refine hK.out _ _ ?_ (fun hHeld => ?_)
   ·exact ⟨keep_cell hb hHeld.1, keep_cell hb hHeld.2.1, keep_cell hb hHeld.2.2.1, keep_cell hb hHeld.2.2.2.1, keep_cell hb hHeld.2.2.2.2.1, keep_cell hb hHeld.2.2.2.2.2.1, keep_cell hb hHeld.2.2.2.2.2.2.1, keep_cell hb hHeld.2.2.2.2.2.2.2⟩
   clear hK K hb HBV HDV r0' z0' r1' z1'
   (try simp only [Act.put, List.setIfInBounds_toArray, List.set_cons_zero, List.set_cons_succ])
   refine wpAnyH_ready (rs := [7]) (by kernel_rfl) (by simp) ?_
   refine AllReadyH.cons (o := ⟨some 33, _, _, _, _, _⟩) rfl (fun K hK => ?_) AllReadyH.nil
   go_simp
   refine (HC.out _ HDV_1.out).mono ?_
   rintro e v2 ⟨rfl, hb⟩
   have HBV_2 := Lib.hid (Below.call HBV_1.out hb)
   have HDV_2 := Lib.hid (HDV_1.out.then hb)
   have r0_2 := keep_cell hb r0_1
   have z0_2 := (hb.frozen (p := ⟨w.heap.size + 1, 0, none⟩) (World.block_lt_of_cell? _ _ r0_1)).trans z0_1
   have r1_2 := keep_cell hb r1_1
   have z1_2 := (hb.frozen (p := ⟨w.heap.size + 1, 1, none⟩) (World.block_lt_of_cell? _ _ r1_1)).trans z1_1
   go_wp2_with fail
   refine hK.out _ _ ?_ (fun hHeld => ?_)
   ·exact ⟨keep_cell hb hHeld.1, keep_cell hb hHeld.2.1, keep_cell hb hHeld.2.2.1, keep_cell hb hHeld.2.2.2.1, keep_cell hb hHeld.2.2.2.2.1, keep_cell hb hHeld.2.2.2.2.2.1, keep_cell hb hHeld.2.2.2.2.2.2.1, keep_cell hb hHeld.2.2.2.2.2.2.2⟩
   clear hK K hb HBV_1 HDV_1 r0_1 z0_1 r1_1 z1_1
   (try simp only [Act.put, List.setIfInBounds_toArray, List.set_cons_zero, List.set_cons_succ])
   refine wpAnyH_take (i := 8) (oi := ⟨some 34, _, _, _, _, _⟩) (v := ?_) rfl (by kernel_rfl) (by kernel_rfl) (by kernel_rfl) (fun _ _ _ h => h) (Or.inl ⟨by kernel_rfl, ?_⟩) (by assumption) ?_
   rotate_left 1
   ·((intro w hSw; (try dsimp only at hSw); go_simp) <;> (try with_reducible rfl))
   (try simp only [Act.put, List.setIfInBounds_toArray, List.set_cons_zero, List.set_cons_succ])
   refine wpAnyH_take (i := 9) (oi := ⟨some 35, _, _, _, _, _⟩) (v := ?_) rfl (by kernel_rfl) (by kernel_rfl) (by kernel_rfl) (fun _ _ _ h => h) (Or.inl ⟨by kernel_rfl, ?_⟩) (by assumption) ?_
   rotate_left 1
   ·((intro w hSw; (try dsimp only at hSw); go_simp) <;> (try with_reducible rfl))
   (try simp only [Act.put, List.setIfInBounds_toArray, List.set_cons_zero, List.set_cons_succ])
   refine wpAnyH_ready (rs := [10]) (by kernel_rfl) (by simp) ?_
   refine AllReadyH.cons (o := ⟨none, _, _, _, _, _⟩) rfl (fun K hK => ?_) AllReadyH.nil
   go_simp
   refine hK.out _ _ ?_ (fun hHeld => ?_)
   ·exact ⟨st_other (st_other (hHeld.1) (ad_nf (by omega))) (ad_nf (by omega)), st_other (st_other (hHeld.2.1) (ad_nf (by omega))) (ad_nf (by omega)), st_other (st_other (hHeld.2.2.1) (ad_nf (by omega))) (ad_nf (by omega)), st_other (st_other (hHeld.2.2.2.1) (ad_nf (by omega))) (ad_nf (by omega)), st_other (st_other (hHeld.2.2.2.2.1) (ad_nf (by omega))) (ad_nf (by omega)), st_other (st_other (hHeld.2.2.2.2.2.1) (ad_nf (by omega))) (ad_nf (by omega)), st_other (st_other (hHeld.2.2.2.2.2.2.1) (ad_nf (by omega))) (ad_nf (by omega)), st_other (st_other (hHeld.2.2.2.2.2.2.2) (ad_nf (by omega))) (ad_nf (by omega))⟩
   clear hK K
   (try simp only [Act.put, List.setIfInBounds_toArray, List.set_cons_zero, List.set_cons_succ])
   refine wpAnyH_take (i := 11) (oi := ⟨some 5, _, _, _, _, _⟩) (v := ?_) rfl (by kernel_rfl) (by kernel_rfl) (by kernel_rfl) (fun _ _ _ h => h) (Or.inl ⟨by kernel_rfl, ?_⟩) (by assumption) ?_
   rotate_left 1
   ·((intro w hSw; (try dsimp only at hSw); go_simp) <;> (try with_reducible rfl))
   (try simp only [Act.put, List.setIfInBounds_toArray, List.set_cons_zero, List.set_cons_succ])
   refine wpAnyH_done (by kernel_rfl) ?_ _
   go_wp2
   have s0 : ((v2.setCell ⟨w.heap.size + 1, 0, none⟩ (.int .i64 t1)).setCell ⟨w.heap.size + 1, 1, none⟩ (.int .i64 t2)).cell? ⟨w.heap.size + 1, 0, none⟩ = some (.int .i64 t1) := st_other (st_same r0_2) (by simp)
   have s1 : ((v2.setCell ⟨w.heap.size + 1, 0, none⟩ (.int .i64 t1)).setCell ⟨w.heap.size + 1, 1, none⟩ (.int .i64 t2)).cell? ⟨w.heap.size + 1, 1, none⟩ = some (.int .i64 t2) := st_same (st_other r1_2 (by simp))
   exact bodyPost_ret (v := .tuple #[.agg #[.int .i64 t1, .int .i64 t2], .int .i64 t3]) (by simp [results, Tryd.results84, go_sem, s0, s1]) rfl ⟨rfl, Below.st (Below.st HBV_2.out (by show w.heap.size ≤ w.heap.size + 1; omega)) (by show w.heap.size ≤ w.heap.size + 1; omega)⟩
 ·rw [if_neg he]
  have q1 : (err != 0) = true := by rw [bne_iff_ne]; exact he
  clear HOK hd he
  obtain ⟨a, b, c, dd⟩ := p
  dsimp only at *
  unfold rchVal
  dsimp only
  go_enter Tryd.func84, Tryd.ntmps84
  go_wp2_with fail
  refine (HP.out _ (HD.out.then (Below.al (Below.al (Below.refl _ _) _) _))).mono ?_
  rintro e w1 ⟨rfl, hb1⟩
  have c0 : w1.cell? ⟨w.heap.size, 0, none⟩ = some (.slice d.bA d.bn d.bc) := keep_cell hb1 (by simp [go_sem])
  have c1 : w1.cell? ⟨w.heap.size, 1, none⟩ = some (.slice d.pA d.pn d.pc) := keep_cell hb1 (by simp [go_sem])
  have c2 : w1.cell? ⟨w.heap.size, 2, none⟩ = some (.slice d.rA d.rn d.rc) := keep_cell hb1 (by simp [go_sem])
  have c3 : w1.cell? ⟨w.heap.size, 3, none⟩ = some (.int .i64 d.arms) := keep_cell hb1 (by simp [go_sem])
  have r0 : w1.cell? ⟨w.heap.size + 1, 0, none⟩ = some (.int .i64 0) := keep_cell hb1 (by simp [go_sem])
  have z0 : w1.frozen? ⟨w.heap.size + 1, 0, none⟩ = false := by rw [hb1.frozen (p := ⟨w.heap.size + 1, 0, none⟩) (by simp [go_sem])]; simp [go_sem]
  have r1 : w1.cell? ⟨w.heap.size + 1, 1, none⟩ = some (.int .i64 0) := keep_cell hb1 (by simp [go_sem])
  have z1 : w1.frozen? ⟨w.heap.size + 1, 1, none⟩ = false := by rw [hb1.frozen (p := ⟨w.heap.size + 1, 1, none⟩) (by simp [go_sem])]; simp [go_sem]
  have hs := hb1.size
  simp at hs
  have HB1 := Lib.hid (Below.call (Below.al (Below.al (Below.refl _ _) (.cells #[.slice d.bA d.bn d.bc, .slice d.pA d.pn d.pc, .slice d.rA d.rn d.rc, .int .i64 d.arms] 26)) (.cells #[.int .i64 0, .int .i64 0] 101)) hb1)
  clear hb1
  go_upto_region 3 with fail
  obtain ⟨W, hW⟩ : ∃ W, W = w1.alloc (.cells #[.int .i64 a, .int .i64 b, .int .i64 c, .int .i64 dd] 90) := ⟨_, rfl⟩
  rw [← hW]
  have hb := (show Below w1.heap.size w1 W by rw [hW]; exact Below.al (Below.refl _ _) _)
  have HBW := Lib.hid (Below.call HB1.out hb)
  have s0 := keep_cell hb r0
  have s1 := keep_cell hb r1
  have y0 := (hb.frozen (p := ⟨w.heap.size + 1, 0, none⟩) (World.block_lt_of_cell? _ _ r0)).trans z0
  have y1 := (hb.frozen (p := ⟨w.heap.size + 1, 1, none⟩) (World.block_lt_of_cell? _ _ r1)).trans z1
  clear hb hW HB1 c0 c1 c2 c3 r0 r1 z0 z1
  go_wp2
  exact bodyPost_ret (v := .tuple #[.agg #[.int .i64 0, .int .i64 0], .int .i64 err]) (by simp [results, Tryd.results84, go_sem, s0, s1]) rfl ⟨rfl, Below.st (Below.st HBW.out (by show w.heap.size ≤ w.heap.size + 1; omega)) (by show w.heap.size ≤ w.heap.size + 1; omega)⟩
end Go.Proofs.YtmecohdedghiaaaDoor
namespace Go.Proofs.YtmecohdedghiaaaDoor
open Go.RowKit
/-- The error of a middle. -/
noncomputable def atE (d : Dk) (id : Int) : Int := if (partV d id).2 = 0 then (if (partV d id).1.a = 3 then 1 else 0) else (partV d id).2
/-- A value is the middle of an id. -/
def AtM (d : Dk) (id : Int) (m : Nat) : Prop := (atE d id ≠ 0 → m = 0) ∧ (atE d id = 0 → Mid (rkOf d (partV d id).1).x (rkOf d (partV d id).1).p (cf (partV d id).1.d) m)
set_option maxRecDepth 100000 in
set_option maxHeartbeats 4000000 in
theorem rat_any (d : Dk) (p : Q4) (w : World) (hd : d.In w w.heap.size) (hp : Lies d p) : Calls Tryd.prog 82 #[d.v, p.v] w fun e w' => ∃ m, e = .returned (.tuple #[.float .f64 m, .float .f64 (rkOf d p).r]) ∧ Mid (rkOf d p).x (rkOf d p).p (cf p.d) m ∧ Below w.heap.size w w' := by
 obtain ⟨pa, pb, pc', pd⟩ := p
 have HD := Lib.hid hd
 have e0 := hd.b.len
 have e1 := hd.p.len
 have e2 := hd.r.len
 unfold Lies at hp
 dsimp only at hp
 obtain ⟨k, rfl⟩ : ∃ k : Nat, pb = (k : Int) := ⟨pb.toNat, by omega⟩
 rw [Int.toNat_natCast] at hp
 have T : rkOf d ⟨pa, k, pc', pd⟩ = if pa = 1 then rkPl (d.pl.getD k KP.dflt) else d.rl.getD k KR.dflt := by unfold rkOf; dsimp only; rw [Int.toNat_natCast]
 rw [T]
 clear T
 obtain ⟨bA, bn, bc, bl, pA, pn, pc, pl, rA, rn, rc, rl, arms⟩ := d
 dsimp only at *
 subst e0 e1 e2
 clear hd
 have hsf := fun (w : World) (a : Addr) (m : Mode) (b : Nat) => run_store_float (P := Tryd.prog) (w := w) (a := a) (m := m) .f64 b
 have hm := fun x y w => mul_run x y w
 have ha := fun x y w => add_run' x y w
 rcases hp with ⟨rfl, _, hl⟩ | ⟨rfl, _, hl⟩
 ·rw [if_pos rfl]
  have hb0 := Below.al (Below.al (Below.refl w.heap.size w) (.cells #[.slice bA bl.length bc, .slice pA pl.length pc, .slice rA rl.length rc, .int .i64 arms] 26)) (.cells #[.int .i64 1, .int .i64 k, .int .i64 pc', .int .i64 pd] 90)
  obtain ⟨w0, hw0⟩ : ∃ w0, w0 = (w.alloc (.cells #[.slice bA bl.length bc, .slice pA pl.length pc, .slice rA rl.length rc, .int .i64 arms] 26)).alloc (.cells #[.int .i64 1, .int .i64 k, .int .i64 pc', .int .i64 pd] 90) := ⟨_, rfl⟩
  rw [← hw0] at hb0
  obtain ⟨b, off, rfl, hb, hc, hcell⟩ := plate_cells (HD.out.p.below hb0) (by dsimp only; omega)
  obtain ⟨c0, c1, c2, c3, c4, c5, c6⟩ := hcell k hl
  clear hcell
  dsimp only at *
  generalize pl.getD k KP.dflt = q at *
  obtain ⟨a1, a2, X, P, R, cap, sA, sn, sc, st⟩ := q
  dsimp only at *
  unfold rkPl
  rw [hw0] at c0 c1 c2 c3 c4 c5 c6 hb0
  have HB0 := Lib.hid hb0
  clear hb0 hw0
  go_enter Tryd.func82, Tryd.ntmps82
  go_wp2
  go_quiet (fail)
  go_wp2
  go_ret2
  exact ⟨_, rfl, mid_of _ _ _ _ _, below_drewN (by (repeat (first | exact Below.refl _ _ | (with_reducible refine Below.al ?_ _)))) _⟩
 ·rw [if_neg (by decide)]
  have hb0 := Below.al (Below.al (Below.refl w.heap.size w) (.cells #[.slice bA bl.length bc, .slice pA pl.length pc, .slice rA rl.length rc, .int .i64 arms] 26)) (.cells #[.int .i64 2, .int .i64 k, .int .i64 pc', .int .i64 pd] 90)
  obtain ⟨w0, hw0⟩ : ∃ w0, w0 = (w.alloc (.cells #[.slice bA bl.length bc, .slice pA pl.length pc, .slice rA rl.length rc, .int .i64 arms] 26)).alloc (.cells #[.int .i64 2, .int .i64 k, .int .i64 pc', .int .i64 pd] 90) := ⟨_, rfl⟩
  rw [← hw0] at hb0
  obtain ⟨b, off, rfl, hb, hc, hcell⟩ := rack_cells (HD.out.r.below hb0) (by dsimp only; omega)
  obtain ⟨c0, c1, c2, c3, c4⟩ := hcell k hl
  clear hcell
  dsimp only at *
  generalize rl.getD k KR.dflt = q at *
  obtain ⟨a1, a2, X, P, R⟩ := q
  dsimp only at *
  skip
  rw [hw0] at c0 c1 c2 c3 c4 hb0
  have HB0 := Lib.hid hb0
  clear hb0 hw0
  go_enter Tryd.func82, Tryd.ntmps82
  go_wp2
  go_quiet (fail)
  go_wp2
  go_ret2
  exact ⟨_, rfl, mid_of _ _ _ _ _, below_drewN (by (repeat (first | exact Below.refl _ _ | (with_reducible refine Below.al ?_ _)))) _⟩
end Go.Proofs.YtmecohdedghiaaaDoor
namespace Go.Proofs.YtmecohdedghiaaaDoor
open Go.RowKit
def Part0 (d : Dk) (p : Q4) : Prop := (p.a = 3 ∧ 0 ≤ p.b) ∨ Lies d p
set_option maxRecDepth 100000 in
set_option maxHeartbeats 4000000 in
theorem rpartS_any (d : Dk) (p : Q4) (w : World) (hd : d.In w w.heap.size) (hp : Part0 d p) : Calls Tryd.prog 64 #[d.v, p.v] w fun e w' => e = .returned (rchVal (spnP d p)) ∧ Below w.heap.size w w' := by
 have HD := Lib.hid hd
 rcases hp with ⟨h3, hb0⟩ | hl
 ·have T : spnP d p = (p.b.toNat, p.b.toNat, 0) := by unfold spnP; rw [if_pos h3]
  rw [T]
  have q3 : (p.a == 3) = true := by rw [beq_iff_eq]; exact h3
  have HB := Lib.hid (show ((p.b.toNat : Nat) : Int) = p.b by omega)
  clear T h3 hd hb0
  obtain ⟨a, b, c, dd⟩ := p
  dsimp only at *
  unfold rchVal
  dsimp only
  rw [HB.out]
  go_enter Tryd.func64, Tryd.ntmps64
  go_wp2
  refine bodyPost_ret (v := .tuple #[.agg #[.int .i64 b, .int .i64 b], .int .i64 0]) (by simp [results, Tryd.results64, go_sem]) rfl ⟨rfl, ?_⟩
  (repeat (first | exact Below.refl _ _ | (with_reducible refine Below.st ?_ (by simp <;> omega)) | (with_reducible refine Below.al ?_ _)))
 ·have h3 : p.a ≠ 3 := by rcases hl with h | h <;> omega
  have T : spnP d p = covV d.bl (rkOf d p).x (rkOf d p).p (rkOf d p).r (cf p.d) := by unfold spnP; rw [if_neg h3]
  rw [T]
  have q3 : (p.a == 3) = false := by rw [beq_eq_false_iff_ne]; exact h3
  have HA := Lib.hid (fun w h => rat_any d p w h hl)
  have HC := Lib.hid (fun (m : Nat) (hm : Mid (rkOf d p).x (rkOf d p).p (cf p.d) m) (w : World) (h : d.In w w.heap.size) => show Calls Tryd.prog 83 #[.slice d.bA d.bn d.bc, .float .f64 m, .float .f64 (rkOf d p).r] w fun e w' => e = .returned (rchVal (covV d.bl (rkOf d p).x (rkOf d p).p (rkOf d p).r (cf p.d))) ∧ Below w.heap.size w w' by
   have := rreach_any (.slice d.bA d.bn d.bc) d.bl m (rkOf d p).r (rkOf_ok h p hl) w h.b
   rwa [cov_mid _ _ _ _ _ _ hm] at this)
  clear T h3 hd hl
  generalize covV d.bl (rkOf d p).x (rkOf d p).p (rkOf d p).r (cf p.d) = t at *
  generalize rkOf d p = q at *
  obtain ⟨t1, t2, t3⟩ := t
  unfold rchVal at *
  dsimp only at *
  obtain ⟨w0, hw0⟩ : ∃ w0, w0 = ((w.alloc (.cells #[.slice d.bA d.bn d.bc, .slice d.pA d.pn d.pc, .slice d.rA d.rn d.rc, .int .i64 d.arms] 26)).alloc (.cells #[.int .i64 p.a, .int .i64 p.b, .int .i64 p.c, .int .i64 p.d] 90)).alloc (.cells #[.int .i64 0, .int .i64 0] 101) := ⟨_, rfl⟩
  have HB0 := Lib.hid (show Below w.heap.size w w0 by rw [hw0]; exact Below.al (Below.al (Below.al (Below.refl _ _) _) _) _)
  have HD0 := Lib.hid (HD.out.then HB0.out)
  have c0 : w0.cell? ⟨w.heap.size, 0, none⟩ = some (.slice d.bA d.bn d.bc) := by rw [hw0]; simp [go_sem]
  have r0 : w0.cell? ⟨w.heap.size + 1 + 1, 0, none⟩ = some (.int .i64 0) := by rw [hw0]; simp [go_sem]
  have r1 : w0.cell? ⟨w.heap.size + 1 + 1, 1, none⟩ = some (.int .i64 0) := by rw [hw0]; simp [go_sem]
  have z0 : w0.frozen? ⟨w.heap.size + 1 + 1, 0, none⟩ = false := by rw [hw0]; simp [go_sem]
  have z1 : w0.frozen? ⟨w.heap.size + 1 + 1, 1, none⟩ = false := by rw [hw0]; simp [go_sem]
  have F := Lib.hid (And.intro c0 (And.intro r0 (And.intro r1 (And.intro z0 z1))))
  clear c0 r0 r1 z0 z1
  go_enter Tryd.func64, Tryd.ntmps64
  go_wp2_with fail
  rw [← hw0]
  clear hw0
  refine (HA.out _ HD0.out).mono ?_
  rintro e w1 ⟨m, rfl, hm, hb1⟩
  have HM := Lib.hid hm
  have HB1 := Lib.hid hb1
  have HD1 := Lib.hid (HD0.out.then hb1)
  have c0 := keep_cell hb1 F.out.1
  clear hm hb1
  go_wp2_with fail
  refine (HC.out m HM.out _ HD1.out).mono ?_
  rintro e w2 ⟨rfl, hb2⟩
  have hb := Below.call HB1.out hb2
  have s0 := keep_cell hb F.out.2.1
  have s1 := keep_cell hb F.out.2.2.1
  have y0 := (hb.frozen (p := ⟨w.heap.size + 1 + 1, 0, none⟩) (World.block_lt_of_cell? _ _ F.out.2.1)).trans F.out.2.2.2.1
  have y1 := (hb.frozen (p := ⟨w.heap.size + 1 + 1, 1, none⟩) (World.block_lt_of_cell? _ _ F.out.2.2.1)).trans F.out.2.2.2.2
  have HB2 := Lib.hid (Below.call HB0.out hb)
  clear hb hb2 c0
  go_wp2
  exact bodyPost_ret (v := .tuple #[.agg #[.int .i64 t1, .int .i64 t2], .int .i64 t3]) (by simp [results, Tryd.results64, go_sem, s0, s1]) rfl ⟨rfl, Below.st (Below.st HB2.out (by show w.heap.size ≤ w.heap.size + 1 + 1; omega)) (by show w.heap.size ≤ w.heap.size + 1 + 1; omega)⟩
end Go.Proofs.YtmecohdedghiaaaDoor
namespace Go.Proofs.YtmecohdedghiaaaDoor
abbrev T3 : Type := Nat × Nat × Int
/-- The first error. -/
def fstE : List T3 → Int
 | [] => 0
 | t :: ts => if t.2.2 = 0 then fstE ts else t.2.2
theorem fst_append (a b : List T3) : fstE (a ++ b) = if fstE a = 0 then fstE b else fstE a := by
 induction a with
 | nil => rfl
 | cons t ts ih =>
  rw [List.cons_append, fstE, fstE, ih]
  by_cases h : t.2.2 = 0
  ·rw [if_pos h, if_pos h]
  ·rw [if_neg h, if_neg h, if_neg h]
theorem fst_all (l : List T3) (h : ∀ t ∈ l, t.2.2 = 0) : fstE l = 0 := by
 induction l with
 | nil => rfl
 | cons t ts ih => rw [fstE, if_pos (h t (by simp)), ih fun x hx => h x (by simp [hx])]
theorem fst_0 (l : List T3) (h : fstE l = 0) : ∀ t ∈ l, t.2.2 = 0 := by
 induction l with
 | nil => intro t ht; cases ht
 | cons t ts ih =>
  rw [fstE] at h
  by_cases e : t.2.2 = 0
  ·rw [if_pos e] at h
   intro x hx
   rcases List.mem_cons.1 hx with rfl | hx
   ·exact e
   ·exact ih h x hx
  ·rw [if_neg e] at h
   exact absurd h e
theorem fst_rep (L : List T3) (r : Nat) : fstE (List.replicate (r + 1) L).flatten = fstE L := by
 induction r with
 | zero => simp
 | succ r ih =>
  rw [List.replicate_succ, List.flatten_cons, fst_append, ih]
  by_cases h : fstE L = 0
  ·rw [if_pos h]
  ·rw [if_neg h]
def pairs (l : List T3) : List (Int × Int) := l.map fun t => ((t.1 : Int), (t.2.1 : Int))
noncomputable def racksL (d : Dk) : List Rk := d.pl.map rkPl ++ d.rl
def rowV (bl : List Nat) (q : Rk) : List T3 := (List.range q.cols.toNat).map fun c : Nat => covV bl q.x q.p q.r (cf ((c : Nat) : Int))
def blkV (bl : List Nat) (q : Rk) : List T3 := (List.replicate q.rows.toNat (rowV bl q)).flatten
def lanesV (n : Nat) : List T3 := (List.range n).map fun i => (i, i, 0)
noncomputable def tabP (d : Dk) : List T3 := (partsL d).map (spnP d)
theorem range_rows {α : Type} (f : Nat → α) (c r : Nat) : (List.range (r * c)).map (fun j => f (j % c)) = (List.replicate r ((List.range c).map f)).flatten := by
 induction r with
 | zero => simp
 | succ r ih =>
  rw [Nat.succ_mul, List.range_add, List.map_append, ih, List.replicate_succ', List.flatten_append, List.map_map]
  congr 1
  rw [List.flatten_cons, List.flatten_nil, List.append_nil]
  apply List.map_congr_left
  intro x hx
  have hx := List.mem_range.1 hx
  show f ((r * c + x) % c) = f x
  rw [Nat.mul_comm, Nat.mul_add_mod, Nat.mod_eq_of_lt hx]
theorem list_range {α : Type} (l : List α) (z : α) : (List.range l.length).map (fun i => l.getD i z) = l := by
 apply List.ext_getElem
 ·simp
 ·intro i h1 h2
  simp only [List.length_map, List.length_range] at h1
  simp [List.getElem?_eq_getElem h1]
theorem flatMap_range {α β : Type} (l : List α) (z : α) (f : α → List β) : l.flatMap f = (List.range l.length).flatMap fun i => f (l.getD i z) := by
 have := congrArg (fun x => x.flatMap f) (list_range l z)
 rw [← this, List.flatMap_map]
theorem fm_congr {α β : Type} (l : List α) (f g : α → List β) (h : ∀ x ∈ l, f x = g x) : l.flatMap f = l.flatMap g := by
 induction l with
 | nil => rfl
 | cons x l ih => rw [List.flatMap_cons, List.flatMap_cons, h x (by simp), ih fun y hy => h y (by simp [hy])]
theorem unit_tab (d : Dk) (u : Q4) (q : Rk) (ha : u.a ≠ 3) (hc : u.c = q.rows) (hd : u.d = q.cols) (hq : ∀ j, rkOf d (unitF u j) = q) : (unitParts u).map (spnP d) = blkV d.bl q := by
 unfold unitParts unitN blkV rowV
 rw [List.map_map, hc, hd, ← range_rows]
 apply List.map_congr_left
 intro j _
 show spnP d (unitF u j) = _
 unfold spnP
 rw [if_neg (show ¬ (unitF u j).a = 3 from ha), hq j]
 unfold unitF
 rw [hd]
theorem tab_eq (d : Dk) : tabP d = (racksL d).flatMap (blkV d.bl) ++ lanesV (d.bl.length - 1) := by
 unfold tabP partsL partsU unitsL racksL
 rw [List.map_flatMap, List.flatMap_append, List.flatMap_append, List.flatMap_append]
 congr 1
 ·congr 1
  ·rw [List.flatMap_map, List.flatMap_map, flatMap_range d.pl KP.dflt]
   apply fm_congr
   intro i hi
   refine unit_tab d _ _ (by show (1 : Int) ≠ 3; decide) rfl rfl fun j => ?_
   unfold rkOf
   rw [if_pos (show (unitF (plateU d.pl i) j).a = 1 from rfl)]
   show rkPl (d.pl.getD ((i : Nat) : Int).toNat KP.dflt) = _
   rw [Int.toNat_natCast]
  ·rw [List.flatMap_map, flatMap_range d.rl KR.dflt]
   apply fm_congr
   intro i hi
   refine unit_tab d _ _ (by show (2 : Int) ≠ 3; decide) rfl rfl fun j => ?_
   unfold rkOf
   rw [if_neg (show ¬ (unitF (rackU d.rl i) j).a = 1 from by show (2 : Int) ≠ 1; decide)]
   show d.rl.getD ((i : Nat) : Int).toNat KR.dflt = _
   rw [Int.toNat_natCast]
 ·unfold lanesV
  rw [List.flatMap_map]
  induction (d.bl.length - 1) with
  | zero => rfl
  | succ n ih =>
   rw [List.range_succ, List.flatMap_append, List.map_append, ih]
   congr 1
/-- What is wrong with the lanes of a described deck. -/
noncomputable def zE (d : Dk) : Int := fstE ((racksL d).flatMap (rowV d.bl))
noncomputable def zchk (d : Dk) : Int := if dchk d = 0 then zE d else dchk d
theorem racks_ok (d : Dk) (h : OkD d) : ∀ q ∈ racksL d, 1 ≤ q.rows ∧ q.rows ≤ 32 ∧ 1 ≤ q.cols ∧ q.cols ≤ 48 := by
 intro q hq
 rcases List.mem_append.1 hq with hq | hq
 ·obtain ⟨p, hp, rfl⟩ := List.mem_map.1 hq
  obtain ⟨i, hi, rfl⟩ := List.mem_iff_getElem.1 hp
  have := h.pl i hi
  rw [List.getD_eq_getElem?_getD, List.getElem?_eq_getElem hi] at this
  exact size_of (plate_size this)
 ·obtain ⟨i, hi, rfl⟩ := List.mem_iff_getElem.1 hq
  have := h.rl i hi
  rw [List.getD_eq_getElem?_getD, List.getElem?_eq_getElem hi] at this
  exact size_of this
theorem fst_blk (bl : List Nat) (l : List Rk) (h : ∀ q ∈ l, 1 ≤ q.rows) : fstE (l.flatMap (blkV bl)) = fstE (l.flatMap (rowV bl)) := by
 induction l with
 | nil => rfl
 | cons q l ih =>
  rw [List.flatMap_cons, List.flatMap_cons, fst_append, fst_append, ih fun x hx => h x (by simp [hx])]
  have e : fstE (blkV bl q) = fstE (rowV bl q) := by
   unfold blkV
   have := h q (by simp)
   obtain ⟨r, hr⟩ : ∃ r, q.rows.toNat = r + 1 := ⟨q.rows.toNat - 1, by omega⟩
   rw [hr, fst_rep]
  rw [e]
theorem fst_tab (d : Dk) (h : OkD d) : fstE (tabP d) = zE d := by
 rw [tab_eq, fst_append, fst_blk _ _ fun q hq => (racks_ok d h q hq).1, fst_all (lanesV _)]
 ·unfold zE
  by_cases e : fstE ((racksL d).flatMap (rowV d.bl)) = 0
  ·rw [if_pos e, e]
  ·rw [if_neg e]
 ·intro t ht
  unfold lanesV at ht
  obtain ⟨i, _, rfl⟩ := List.mem_map.1 ht
  rfl
/-- The table: a pair for each part. -/
noncomputable def tabV (d : Dk) : List (Int × Int) := if zchk d = 0 then pairs (tabP d) else []
theorem pairs_append (a b : List T3) : pairs (a ++ b) = pairs a ++ pairs b := by unfold pairs; rw [List.map_append]
theorem row_len (bl : List Nat) (q : Rk) : (rowV bl q).length = q.cols.toNat := by unfold rowV; simp
theorem tab_len0 (d : Dk) : (tabP d).length = (partsL d).length := by unfold tabP; simp
end Go.Proofs.YtmecohdedghiaaaDoor
namespace Go.Proofs.YtmecohdedghiaaaDoor
open Go.RowKit
def spCells (q : Int × Int) : List Value := [.int .i64 q.1, .int .i64 q.2]
/-- Lists of spans. -/
noncomputable def KS : Lk Tryd.prog (Int × Int) where
 S := 85
 E := 101
 n := 2
 zero := .agg #[.int .i64 0, .int .i64 0]
 bytes := 16
 cells := spCells
 dflt := (0, 0)
 ok q := fits q.1 ∧ fits q.2
 und := Tryd.underlying85
 info := by kernel_rfl
 zs := rfl
 pos := by decide
 small := by decide
 len _ := rfl
 one x u hu := by
  simp only [spCells, List.mem_cons, List.not_mem_nil, or_false] at hu
  rcases hu with rfl | rfl <;> rfl
theorem span_cells {w : World} {B : Nat} {A : Option Addr} {n c : Nat} {xs : List (Int × Int)} (h : KS.IsL w B (.slice A n c) xs) (h0 : 0 < xs.length) : ∃ b off, A = some ⟨b, off, none⟩ ∧ b < B ∧ xs.length ≤ c ∧
  ∀ i, i < xs.length → w.cell? ⟨b, off + i * 2, none⟩ = some (.int .i64 (xs.getD i (0, 0)).1) ∧ w.cell? ⟨b, off + i * 2 + 1, none⟩ = some (.int .i64 (xs.getD i (0, 0)).2) := by
 obtain ⟨b, off, e, hb, hc, hcell⟩ := h.elem h0
 refine ⟨b, off, e, hb, hc, fun i hi => ?_⟩
 have q := fun j u hu => hcell i hi j u hu
 have hn : KS.n = 2 := rfl
 simp only [hn, ← Nat.add_assoc] at q
 exact ⟨q 0 _ rfl, q 1 _ rfl⟩
namespace Lk
variable {P : Program} {α : Type} {K : Lk P α}
end Lk
end Go.Proofs.YtmecohdedghiaaaDoor
namespace Go.Proofs.YtmecohdedghiaaaDoor
open Go.RowKit
set_option maxRecDepth 100000 in
set_option maxHeartbeats 4000000 in
theorem racks_any (d : Dk) (w : World) (hd : d.In w w.heap.size) (hp : d.pl.length ≤ 4) (hr : d.rl.length ≤ 4) :
  Calls Tryd.prog 56 #[d.v] w fun e w' => ∃ v, e = .returned v ∧ KR.Own w' w.heap.size v (racksL d) ∧ Below w.heap.size w w' := by
 have HD := Lib.hid hd
 have e0 := hd.b.len
 have e1 := hd.p.len
 have e2 := hd.r.len
 have HU := Lib.hid (show racksL d = d.pl.map rkPl ++ d.rl from rfl)
 obtain ⟨U, hU⟩ : ∃ U, U = racksL d := ⟨_, rfl⟩
 rw [← hU] at HU ⊢
 clear hU
 obtain ⟨bA, bn, bc, bl, pA, pn, pc, pl, rA, rn, rc, rl, arms⟩ := d
 dsimp only at *
 subst e0 e1 e2
 clear hd
 have hsf := fun (w : World) (a : Addr) (m : Mode) (b : Nat) => run_store_float (P := Tryd.prog) (w := w) (a := a) (m := m) .f64 b
 obtain ⟨w0, hw0⟩ : ∃ w0, w0 = w.alloc (.cells #[.slice bA bl.length bc, .slice pA pl.length pc, .slice rA rl.length rc, .int .i64 arms] 26) := ⟨_, rfl⟩
 have f1 : w0.cell? ⟨w.heap.size, 1, none⟩ = some (.slice pA pl.length pc) := by rw [hw0]; exact alloc_cell _ _ _ _ _ rfl
 have f2 : w0.cell? ⟨w.heap.size, 2, none⟩ = some (.slice rA rl.length rc) := by rw [hw0]; exact alloc_cell _ _ _ _ _ rfl
 have HB0 := Lib.hid (show Below w.heap.size w w0 by rw [hw0]; exact Below.al (Below.refl _ _) _)
 have HD0 := Lib.hid (HD.out.then HB0.out)
 obtain ⟨i0, hi, hz0, hz1, hz2⟩ := info_parts KR.info
 obtain ⟨w1, hmk, hown, hgr⟩ := run_make_own (P := Tryd.prog) w0 w0.heap.size 24 69 i0 _ 5 Tryd.underlying24 hi hz0 hz1 .i64 .i64 8 (by rw [hz2]; decide) (by decide) (Nat.le_refl _)
 have hsz : w0.heap.size = w.heap.size + 1 := by rw [hw0]; simp
 rw [show (Value.slice (some ⟨w0.heap.size, 0, none⟩) 0 8) = Value.slice (some ⟨w.heap.size + 1, 0, none⟩) 0 8 by rw [hsz]] at hown hmk
 have HO1 := Lib.hid (show KR.Own w1 w0.heap.size (.slice (some ⟨w.heap.size + 1, 0, none⟩) 0 8) [] from ⟨hown, fun x hx => by simp at hx⟩)
 have HB1 := Lib.hid (show Below w0.heap.size w0 w1 from (Below.refl _ _).grown hgr (Nat.le_refl _) (fun k hk => by cases hk))
 have HD1 := Lib.hid (HD0.out.then HB1.out)
 have HF := Lib.hid (show ∀ w2, Below w0.heap.size w0 w2 → w2.cell? ⟨w.heap.size, 1, none⟩ = some (.slice pA pl.length pc) ∧ w2.cell? ⟨w.heap.size, 2, none⟩ = some (.slice rA rl.length rc) from
  fun w2 hb => ⟨keep_cell hb f1, keep_cell hb f2⟩)
 clear hown hgr hi hz0 hz1 hz2 f1 f2
 obtain ⟨h1, h2⟩ := HF.out w1 HB1.out
 rw [hw0] at hmk
 have hmk' : (Instr.makeSlice 24 (.int .i64 0) (.int .i64 8)).run Tryd.prog (w.alloc (.cells #[.slice bA bl.length bc, .slice pA pl.length pc, .slice rA rl.length rc, .int .i64 arms] 26)) = .ok (.slice (some ⟨w.heap.size + 1, 0, none⟩) 0 8) w1 := hmk
 clear hmk
 go_enter Tryd.func56, Tryd.ntmps56
 go_wp2
 clear hmk' h1 h2 hw0 hsz
 obtain ⟨v0, hv0⟩ : ∃ v, v = Value.slice (some ⟨w.heap.size + 1, 0, none⟩) 0 8 := ⟨_, rfl⟩
 rw [← hv0] at HO1
 go_loopw [3, 10] (fun v i wr => ∃ k : Nat, k ≤ pl.length ∧ i = .int .i64 k ∧ KR.Own wr w0.heap.size v ((pl.take k).map rkPl) ∧ Below w0.heap.size w0 wr) (fun _ i _ => pl.length - (intOf i).toNat)
 case atStart => exact ⟨0, Nat.zero_le _, rfl, by rw [← hv0]; exact HO1.out, HB1.out⟩
 case round =>
  obtain ⟨k, hk, rfl, hown, hbl⟩ := hrel
  have HO := Lib.hid hown
  have HB := Lib.hid hbl
  clear hown hbl
  by_cases hlt : k < pl.length
  ·obtain ⟨b, off, rfl, hb, hc, hcell⟩ := plate_cells (HD0.out.p.below HB.out) (by dsimp only; omega)
   obtain ⟨c0, c1, c2, c3, c4, c5, c6⟩ := hcell k hlt
   have HS := Lib.hid (show (pl.take (k + 1)).map rkPl = (pl.take k).map rkPl ++ [rkPl (pl.getD k KP.dflt)] by rw [take_snoc pl k KP.dflt hlt, List.map_append]; rfl)
   obtain ⟨o1, o2, o3, o4, o5, _⟩ := HD0.out.p.okAt k hlt
   have HOK := Lib.hid (show KR.ok (rkPl (pl.getD k KP.dflt)) from ⟨o1, o2, o3, o4, o5⟩)
   have HLN := Lib.hid (show ((pl.take k).map rkPl).length = k by simp; omega)
   have HRK := Lib.hid (fun w => rackLike_any (pl.getD k KP.dflt) w)
   clear hcell o1 o2 o3 o4 o5
   dsimp only at *
   generalize pl.getD k KP.dflt = q at *
   generalize (pl.take k).map rkPl = L at *
   obtain ⟨a1, a2, X, P, R, cap, sA, sn, sc, st⟩ := q
   have HS := Lib.hid (show (pl.take (k + 1)).map rkPl = L ++ [⟨a1, a2, X, P, R⟩] from HS.out)
   have HOK := Lib.hid (show KR.ok ⟨a1, a2, X, P, R⟩ from HOK.out)
   go_wp2_with fail
   refine (HRK.out _).mono ?_
   rintro e w2 ⟨rfl, hb2⟩
   have hb3 := Below.call (Below.al (Below.refl _ _) _) hb2
   have HB3 := Lib.hid (Below.call HB.out hb3)
   have HO3 := Lib.hid (HO.out.below hb3)
   clear hb2 hb3 HO c0 c1 c2 c3 c4 c5 c6
   go_wp2_with (at_builtin; refine Lk.wpList_app (K := KR) _ rfl _ _ rfl rfl w0.heap.size (w2.heap.size + 1) _ _ L [⟨a1, a2, X, P, R⟩] rfl rfl (HO3.out.alloc _) (Lk.IsL.lit (K := KR) _ ⟨a1, a2, X, P, R⟩ _ HOK.out rfl w2.heap.size rfl) ?c1 ?c2 ?_)
   case c1 => have := HLN.out; simp; omega
   case c2 => have := HB3.out.size; simp; omega
   intro v1 w4 hown hgrow _
   have HB4 := Lib.hid (Lk.Own.grow' (HO3.out.alloc _) (Below.al HB3.out _) (by have := HB3.out.size; simp; omega) hgrow)
   have HO4 := Lib.hid hown
   clear hown hgrow
   go_wp2
   go_roundw
   case rel => exact ⟨k + 1, by omega, num_i (by omega), by rw [HS.out]; exact HO4.out, HB4.out⟩
   case measure => simp [intOf]; omega
  ·obtain rfl : k = pl.length := by omega
   rw [List.take_length] at HO
   obtain ⟨q1, q2⟩ := HF.out wr HB.out
   have HLN := Lib.hid (show (pl.map rkPl).length = pl.length by simp)
   generalize pl.map rkPl = L at *
   go_wp2_with (at_builtin; refine Lk.wpList_app (K := KR) _ rfl _ _ rfl rfl w0.heap.size wr.heap.size _ _ L rl rfl rfl HO.out ((HD0.out.then HB.out).r) ?c1 ?c2 ?_)
   case c1 => have := HLN.out; omega
   case c2 => exact HB.out.size
   intro v1 w4 hown hgrow _
   have HB4 := Lib.hid (Lk.Own.grow' HO.out HB.out HB.out.size hgrow)
   have HO4 := Lib.hid hown
   clear hown hgrow
   go_wp2
   go_ret
   exact ⟨_, rfl, by rw [HU.out]; exact HO4.out.mono HB0.out.size, Below.call HB0.out HB4.out⟩
end Go.Proofs.YtmecohdedghiaaaDoor
namespace Go.Proofs.YtmecohdedghiaaaDoor
open Go.RowKit
theorem fst_idx (l : List T3) (z : T3) (e : Int) (he : e ≠ 0) : ∀ j, j < l.length → (∀ i, i < j → (l.getD i z).2.2 = 0) → (l.getD j z).2.2 = e → fstE l = e := by
 induction l with
 | nil => intro j hj; simp at hj
 | cons t ts ih =>
  intro j hj hp ht
  rw [fstE]
  cases j with
  | zero =>
   have ht' : t.2.2 = e := by simpa using ht
   rw [if_neg (by rw [ht']; exact he), ht']
  | succ j =>
   have h0 : t.2.2 = 0 := by simpa using hp 0 (by omega)
   rw [if_pos h0]
   exact ih j (by simpa using hj) (fun i hi => by simpa using hp (i + 1) (by omega)) (by simpa using ht)
theorem row_at (bl : List Nat) (q : Rk) (i : Nat) (hi : i < q.cols.toNat) : (rowV bl q).getD i (0, 0, 0) = covV bl q.x q.p q.r (cf (i : Int)) := by
 rw [List.getD_eq_getElem?_getD]
 unfold rowV
 rw [List.getElem?_map, List.getElem?_range hi]
 rfl
theorem row_0 (bl : List Nat) (q : Rk) (h : ∀ i, i < q.cols.toNat → (covV bl q.x q.p q.r (cf (i : Int))).2.2 = 0) : fstE (rowV bl q) = 0 := by
 apply fst_all
 intro t ht
 unfold rowV at ht
 obtain ⟨i, hi, rfl⟩ := List.mem_map.1 ht
 exact h i (List.mem_range.1 hi)
theorem rows_next (bl : List Nat) (l : List Rk) (k : Nat) (hk : k < l.length) (h0 : fstE ((l.take k).flatMap (rowV bl)) = 0) (h : ∀ i, i < (l.getD k KR.dflt).cols.toNat → (covV bl (l.getD k KR.dflt).x (l.getD k KR.dflt).p (l.getD k KR.dflt).r (cf (i : Int))).2.2 = 0) : fstE ((l.take (k + 1)).flatMap (rowV bl)) = 0 := by
 rw [take_snoc l k KR.dflt hk, List.flatMap_append, fst_append, if_pos h0, List.flatMap_cons, List.flatMap_nil, List.append_nil]
 exact row_0 bl _ h
theorem rows_hit (bl : List Nat) (l : List Rk) (k : Nat) (hk : k < l.length) (j : Nat) (hj : j < (l.getD k KR.dflt).cols.toNat) (e : Int) (he : e ≠ 0) (h0 : fstE ((l.take k).flatMap (rowV bl)) = 0)
  (hp : ∀ i, i < j → (covV bl (l.getD k KR.dflt).x (l.getD k KR.dflt).p (l.getD k KR.dflt).r (cf (i : Int))).2.2 = 0) (ht : (covV bl (l.getD k KR.dflt).x (l.getD k KR.dflt).p (l.getD k KR.dflt).r (cf (j : Int))).2.2 = e) : fstE (l.flatMap (rowV bl)) = e := by
 have hl : l = l.take k ++ (l.getD k KR.dflt :: l.drop (k + 1)) := by rw [← drop_snoc l k KR.dflt hk, List.take_append_drop]
 have hrow : fstE (rowV bl (l.getD k KR.dflt)) = e := by
  apply fst_idx _ (0, 0, 0) e he j
  ·rw [row_len]; exact hj
  ·intro i hi
   rw [row_at _ _ _ (by omega)]
   exact hp i hi
  ·rw [row_at _ _ _ hj]
   exact ht
 generalize l.getD k KR.dflt = q at *
 rw [hl, List.flatMap_append, fst_append, if_pos h0, List.flatMap_cons, fst_append, hrow, if_neg he]
set_option maxRecDepth 100000 in
set_option maxHeartbeats 8000000 in
theorem zcheck_any (d : Dk) (w : World) (hd : d.In w w.heap.size) : Calls Tryd.prog 41 #[d.v] w fun e w' => e = .returned (.int .i64 (zchk d)) ∧ Below w.heap.size w w' := by
 have HD := Lib.hid hd
 have HC := Lib.hid (fun w h => dcheck_any d w h)
 have hsf := fun (w : World) (a : Addr) (m : Mode) (b : Nat) => run_store_float (P := Tryd.prog) (w := w) (a := a) (m := m) .f64 b
 obtain ⟨w0, hw0⟩ : ∃ w0, w0 = w.alloc (.cells #[.slice d.bA d.bn d.bc, .slice d.pA d.pn d.pc, .slice d.rA d.rn d.rc, .int .i64 d.arms] 26) := ⟨_, rfl⟩
 have HB0 := Lib.hid (show Below w.heap.size w w0 by rw [hw0]; exact Below.al (Below.refl _ _) _)
 have HD0 := Lib.hid (HD.out.then HB0.out)
 have HF := Lib.hid (show ∀ w1, Below w0.heap.size w0 w1 → (w1.cell? ⟨w.heap.size, 0, none⟩ = some (.slice d.bA d.bn d.bc) ∧ w1.cell? ⟨w.heap.size, 1, none⟩ = some (.slice d.pA d.pn d.pc) ∧ w1.cell? ⟨w.heap.size, 2, none⟩ = some (.slice d.rA d.rn d.rc) ∧ w1.cell? ⟨w.heap.size, 3, none⟩ = some (.int .i64 d.arms)) from by
   intro w1 hb
   refine ⟨keep_cell hb ?_, keep_cell hb ?_, keep_cell hb ?_, keep_cell hb ?_⟩
   all_goals (rw [hw0]; simp))
 by_cases hz : dchk d = 0
 ·have T : zchk d = fstE ((racksL d).flatMap (rowV d.bl)) := by unfold zchk; rw [if_pos hz]; rfl
  rw [T]
  have HOK := Lib.hid (dchk_ok d hz)
  have HRS := Lib.hid (racks_ok d HOK.out)
  have HRC := Lib.hid (fun w h => racks_any d w h HOK.out.p4 HOK.out.r4)
  have HRL := Lib.hid (show (racksL d).length ≤ 8 by unfold racksL; rw [List.length_append, List.length_map]; have := HOK.out.p4; have := HOK.out.r4; omega)
  have HBL := Lib.hid (fun (w : World) (h : d.In w w.heap.size) => h.b)
  have HN := Lib.hid (rows_next d.bl (racksL d))
  have HH := Lib.hid (rows_hit d.bl (racksL d))
  have HCV := Lib.hid (fun (w : World) (h : d.In w w.heap.size) (q : Rk) (c : Int) (hq : q.r < 18446744073709551616) => covered_any (.slice d.bA d.bn d.bc) d.bl q c w h.b hq)
  rw [hz] at HC
  clear T hz hd
  generalize racksL d = RS at *
  go_enter Tryd.func41, Tryd.ntmps41
  go_wp2_with fail
  go_step3
  go_wp2_with fail
  rw [← hw0]
  clear hw0
  refine (HC.out _ HD0.out).mono ?_
  rintro e w1 ⟨rfl, hb1⟩
  obtain ⟨d0, d1, d2, d3⟩ := HF.out w1 hb1
  have HB1 := Lib.hid hb1
  clear hb1
  go_wp2_with fail
  go_step3
  go_wp2_with fail
  refine (HRC.out w1 (HD0.out.then HB1.out)).mono ?_
  rintro e w2 ⟨v, rfl, hown, hb2⟩
  have HB2 := Lib.hid (Below.call HB1.out hb2)
  have HIL := Lib.hid (hown.isL (by have := HRL.out; omega))
  clear hb2 hown d0 d1 d2 d3
  obtain ⟨A, cap, rfl⟩ : ∃ A cap, v = .slice A RS.length cap := by
   obtain ⟨⟨A, cap, h, _⟩, _⟩ := HIL.out
   exact ⟨A, cap, h⟩
  go_wp2_with fail
  go_loopw [3, 15] (fun e i wr => ∃ k : Nat, k ≤ RS.length ∧ i = .int .i64 k ∧ e = .int .i64 0 ∧ fstE ((RS.take k).flatMap (rowV d.bl)) = 0 ∧ Below w2.heap.size w2 wr) (fun _ i _ => RS.length - (intOf i).toNat)
  case atStart => exact ⟨0, Nat.zero_le _, rfl, rfl, rfl, Below.refl _ _⟩
  case round =>
   obtain ⟨k, hk, rfl, rfl, hf, hbl⟩ := hrel
   have HB := Lib.hid hbl
   have HZ := Lib.hid hf
   have h8 := HRL.out
   clear hbl hf
   by_cases hlt : k < RS.length
   ·obtain ⟨b, off, rfl, hb, hc, hcell⟩ := rack_cells (HIL.out.below HB.out) (by omega)
    obtain ⟨c0, c1, c2, c3, c4⟩ := hcell k hlt
    have HQ := Lib.hid (HIL.out.okAt k hlt)
    have HCO := Lib.hid (HRS.out _ (getD_mem' RS k KR.dflt hlt))
    have HNK := Lib.hid (HN.out k hlt HZ.out)
    have HHK := Lib.hid (fun j hj e he hp ht => HH.out k hlt j hj e he HZ.out hp ht)
    obtain ⟨wo, hwo⟩ : ∃ wo, wo = wr := ⟨_, rfl⟩
    subst hwo
    clear hcell
    generalize RS.getD k KR.dflt = q at *
    have hco := HCO.out
    obtain ⟨a1, a2, X, P, R⟩ := q
    dsimp only at *
    obtain ⟨_, _, hco1, hco2⟩ := hco
    obtain ⟨n, rfl⟩ : ∃ n : Nat, a2 = (n : Int) := ⟨a2.toNat, by omega⟩
    rw [Int.toNat_natCast] at HNK HHK
    obtain ⟨w5, hw5⟩ : ∃ w5, w5 = wo.alloc (.cells #[.int .i64 a1, .int .i64 n, .float .f64 X, .float .f64 P, .float .f64 R] 69) := ⟨_, rfl⟩
    have HB5 := Lib.hid (show Below w2.heap.size w2 w5 by rw [hw5]; exact Below.al HB.out _)
    have HD5 := Lib.hid (HD0.out.then (Below.call HB2.out HB5.out))
    have HF5 := Lib.hid (show ∀ w1, Below w5.heap.size w5 w1 → w1.cell? ⟨wo.heap.size, 0, none⟩ = some (.int .i64 a1) ∧ w1.cell? ⟨wo.heap.size, 1, none⟩ = some (.int .i64 n) ∧ w1.cell? ⟨wo.heap.size, 2, none⟩ = some (.float .f64 X) ∧ w1.cell? ⟨wo.heap.size, 3, none⟩ = some (.float .f64 P) ∧ w1.cell? ⟨wo.heap.size, 4, none⟩ = some (.float .f64 R) from by
     intro w1 hb
     refine ⟨keep_cell hb ?_, keep_cell hb ?_, keep_cell hb ?_, keep_cell hb ?_, keep_cell hb ?_⟩
     all_goals (rw [hw5]; simp))
    go_wp2_with fail
    rw [← hw5]
    clear hw5 c0 c1 c2 c3 c4
    go_loopw [3, 21] (fun e c wr => ∃ j : Nat, j ≤ n ∧ c = .int .i64 j ∧ e = .int .i64 0 ∧ (∀ i, i < j → (covV d.bl X P R (cf (i : Int))).2.2 = 0) ∧ Below w5.heap.size w5 wr) (fun _ c _ => n - (intOf c).toNat)
    case atStart => exact ⟨0, Nat.zero_le _, rfl, rfl, fun i hi => by omega, Below.refl _ _⟩
    case round =>
     obtain ⟨j, hj, rfl, rfl, hall, hbl⟩ := hrel
     have HBi := Lib.hid hbl
     have HL := Lib.hid hall
     clear hbl hall
     by_cases hlj : j < n
     ·obtain ⟨e0, e1, e2, e3, e4⟩ := HF5.out wr HBi.out
      obtain ⟨d0, d1, d2, d3⟩ := HF.out wr (Below.call HB2.out (Below.call HB5.out HBi.out))
      have HCJ := Lib.hid (HCV.out wr (HD5.out.then HBi.out) ⟨a1, n, X, P, R⟩ j HQ.out.2.2.2.2)
      have HHJ := Lib.hid (HHK.out j hlj)
      have HLS := Lib.hid (show (covV d.bl X P R (cf (j : Int))).2.2 = 0 → ∀ i, i < j + 1 → (covV d.bl X P R (cf (i : Int))).2.2 = 0 from fun h i hi => by
       by_cases e : i = j
       ·rw [e]; exact h
       ·exact HL.out i (by omega))
      dsimp only at HCJ
      generalize covV d.bl X P R (cf (j : Int)) = t at *
      obtain ⟨t1, t2, t3⟩ := t
      unfold rchVal at HCJ
      dsimp only at *
      by_cases ht : t3 = 0
      ·subst ht
       have HLN := Lib.hid (HLS.out rfl)
       go_wp2_with fail
       refine HCJ.out.mono ?_
       rintro e w6 ⟨rfl, hb6⟩
       have HB6 := Lib.hid (Below.call HBi.out hb6)
       clear hb6
       go_wp2
       go_roundw
       case rel => exact ⟨j + 1, by omega, num_i (by omega), rfl, HLN.out, HB6.out⟩
       case measure => simp [intOf]; omega
      ·have HT := Lib.hid (HHJ.out t3 ht HL.out rfl)
       have q1 : (t3 != 0) = true := by rw [bne_iff_ne]; exact ht
       clear ht
       go_wp2_with fail
       refine HCJ.out.mono ?_
       rintro e w6 ⟨rfl, hb6⟩
       have HB6 := Lib.hid (Below.call HBi.out hb6)
       clear hb6 e0 e1 e2 e3 e4 d0 d1 d2 d3
       go_wp2
       rw [Exit.noGoto_ret]
       go_ret
       exact ⟨ret_i HT.out.symm, Below.call HB0.out (Below.call HB2.out (Below.call HB5.out HB6.out))⟩
     ·obtain rfl : j = n := by omega
      have HT := Lib.hid (HNK.out HL.out)
      go_wp2
      go_roundw
      case rel => exact ⟨k + 1, by omega, num_i (by omega), rfl, HT.out, Below.call HB5.out HBi.out⟩
      case measure => simp [intOf]; omega
   ·obtain rfl : k = RS.length := by omega
    rw [List.take_length] at HZ
    go_wp2
    rw [Exit.noGoto_ret]
    go_ret
    exact ⟨ret_i HZ.out.symm, Below.call HB0.out (Below.call HB2.out HB.out)⟩
 ·have T : zchk d = dchk d := by unfold zchk; rw [if_neg hz]
  rw [T]
  have hz' : (dchk d != 0) = true := by rw [bne_iff_ne]; exact hz
  clear T hz hd
  generalize dchk d = c at *
  go_enter Tryd.func41, Tryd.ntmps41
  go_wp2_with fail
  go_step3
  go_wp2_with fail
  rw [← hw0]
  clear hw0
  refine (HC.out _ HD0.out).mono ?_
  rintro e w1 ⟨rfl, hb1⟩
  have HB1 := Lib.hid hb1
  clear hb1
  go_wp2
  rw [Exit.noGoto_ret]
  go_ret
  exact ⟨rfl, Below.call HB0.out HB1.out⟩
end Go.Proofs.YtmecohdedghiaaaDoor
namespace Go.Proofs.YtmecohdedghiaaaDoor
open Go.RowKit
theorem rch_good (l : List Nat) (x r : Nat) (h64 : r < 18446744073709551616) (h : (rch l x r).2.2 = 0) : (rch l x r).1 ≤ (rch l x r).2.1 ∧ (rch l x r).2.1 + 2 ≤ l.length ∧ l.length ≤ 25 := by
 by_cases hz : chkE l = 0
 ·have hr := rise_of l hz
  have hm := hr.most
  rcases hx : nanb x with _ | _
  ·rcases hy : nanb r with _ | _
   ·rcases hl : ltb r 0 with _ | _
    ·rcases es : Ieee.double.sub x r with _ | a
     ·rw [rch_none l x r hz hx hy hl (.inl es)] at h; exact absurd h (by decide)
     ·rcases ea : Ieee.double.add x r with _ | q
      ·rw [rch_none l x r hz hx hy hl (.inr ea)] at h; exact absurd h (by decide)
      ·rw [rch_some l x r a q hz hx hy hl es ea] at h ⊢
       obtain ⟨na, nq, s1, s2⟩ := sub_le_add x r a q h64 (nanb_of hx) (nanb_of hy) (ltb_0 r (nanb_of hy) hl) es ea
       dsimp only at h ⊢
       rcases ho : outB l a q with _ | _
       ·obtain ⟨p1, p2, _⟩ := lanes_spec l hr a q na nq (Int.le_trans s1 s2) ho
        unfold tLo tHi
        rw [ho, if_neg (by simp), if_neg (by simp)]
        exact ⟨p1, p2, by omega⟩
       ·unfold tEr at h
        rw [ho, if_pos rfl] at h
        exact absurd h (by decide)
    ·rw [rch_neg l x r hz hx hy hl] at h; exact absurd h (by decide)
   ·rw [rch_nan l x r hz (.inr hy)] at h; exact absurd h (by decide)
  ·rw [rch_nan l x r hz (.inl hx)] at h; exact absurd h (by decide)
 ·rw [rch_bad l x r hz] at h
  exact absurd h hz
theorem cov_good (l : List Nat) (X P R c : Nat) (h64 : R < 18446744073709551616) (h : (covV l X P R c).2.2 = 0) : (covV l X P R c).1 ≤ (covV l X P R c).2.1 ∧ (covV l X P R c).2.1 + 2 ≤ l.length ∧ l.length ≤ 25 := rch_good l _ R h64 h
theorem gb_trans {W V U : World} {row : Option Nat} (h : W.grownBy V row) (k : V.grownBy U row) : W.grownBy U row :=
 ⟨k.os.trans h.os, k.tape.trans h.tape, k.output.trans h.output, Nat.le_trans h.size k.size, fun i hi hne => (k.block i (Nat.lt_of_lt_of_le hi h.size) hne).trans (h.block i hi hne)⟩
theorem pairs_len (l : List T3) : (pairs l).length = l.length := by unfold pairs; simp
end Go.Proofs.YtmecohdedghiaaaDoor
namespace Go.Proofs.YtmecohdedghiaaaDoor
open Go.RowKit
theorem sum_nn (l : List Int) (h : ∀ x ∈ l, 0 ≤ x) : 0 ≤ l.sum := by
 induction l with
 | nil => simp
 | cons x l ih =>
  rw [List.sum_cons]
  have h1 := h x (by simp)
  have h2 := ih fun y hy => h y (by simp [hy])
  omega
theorem wells_nn (l : List Pl) (h : ∀ i, i < l.length → sizeB (l.getD i KP.dflt).rows (l.getD i KP.dflt).cols = true) : 0 ≤ wellsV l := by
 apply sum_nn
 intro x hx
 obtain ⟨q, hq, rfl⟩ := List.mem_map.1 hx
 obtain ⟨i, hi, rfl⟩ := List.mem_iff_getElem.1 hq
 have := h i hi
 rw [List.getD_eq_getElem?_getD, List.getElem?_eq_getElem hi] at this
 have := (size_mul this).1
 simp only [Option.getD_some] at this
 omega
theorem tips_nn (l : List Rk) (h : ∀ i, i < l.length → sizeB (l.getD i KR.dflt).rows (l.getD i KR.dflt).cols = true) : 0 ≤ tipsV l := by
 apply sum_nn
 intro x hx
 obtain ⟨q, hq, rfl⟩ := List.mem_map.1 hx
 obtain ⟨i, hi, rfl⟩ := List.mem_iff_getElem.1 hq
 have := h i hi
 rw [List.getD_eq_getElem?_getD, List.getElem?_eq_getElem hi] at this
 have := (size_mul this).1
 simp only [Option.getD_some] at this
 omega
end Go.Proofs.YtmecohdedghiaaaDoor
