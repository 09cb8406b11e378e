/- Units: how many parts lie on one, and whether a part does. -/
import Derived.Test.YtmecohdedghiaaaDoorPc00
import Derived.RegionTactic
import Derived.ChangeAlike
namespace Go.Proofs.YtmecohdedghiaaaDoor
open Go.RowKit
/-- A no-number that is drawn. -/
def nd (x y : Nat) (w : World) : Nat := Question.cut (.nanBits .f64 x y) (w.tape w.drawn (.nanBits .f64 x y))
theorem nd_nan (x y : Nat) (w : World) : nanb (nd x y w) = true := by
 apply decide_eq_true
 unfold nd
 generalize w.tape w.drawn (.nanBits .f64 x y) = t
 show 9218868437227405312 < Question.cut (.nanBits .f64 x y) t % 9223372036854775808
 simp only [Question.cut, Nat.reducePow, Nat.reduceSub]
 have h1 : t % 2 = 0 ∨ t % 2 = 1 := by omega
 have h2 : t / 2 % 4503599627370495 < 4503599627370495 := Nat.mod_lt _ (by decide)
 generalize t / 2 % 4503599627370495 = c at *
 rcases h1 with h1 | h1
 ·rw [h1]; omega
 ·rw [h1]; omega
/-- A difference, where it is a number and where not. -/
theorem sub_run (x y : Nat) (h64 : y < 18446744073709551616) : ∃ (d : Nat) (s : World → Nat), (∀ w, (binOp .sub 50 (.float .f64 x) (.float .f64 y)).run Tryd.prog w = .ok (.float .f64 (s w)) (w.drewN d)) ∧
  ((Ieee.double.sub x y = none ∧ ∀ w, nanb (s w) = true) ∨ ∃ p, Ieee.double.sub x y = some p ∧ nanb p = false ∧ s = fun _ => p) := by
 rcases he : Ieee.double.sub x y with _ | p
 ·refine ⟨1, nd x y, fun w => ?_, .inl ⟨rfl, nd_nan x y⟩⟩
  have he' : FloatKind.f64.format.sub x y = none := he
  simp [binOp, Op.floatArith, he', Question.forced]
  exact ⟨rfl, rfl⟩
 ·refine ⟨0, fun _ => p, fun w => run_float_arith (P := Tryd.prog) w .sub 50 .f64 _ _ _ he, .inr ⟨p, rfl, ?_, rfl⟩⟩
  unfold nanb
  rw [decide_eq_false_iff_not]
  have hc : ¬ (nan x ∨ nan y ∨ clashS x y) := fun h => by rw [sub_none x y h64 h] at he; cases he
  obtain ⟨q, hq, hn, _⟩ := sub_some x y h64 (fun h => hc (.inl h)) (fun h => hc (.inr (.inl h))) (fun h => hc (.inr (.inr h)))
  rw [he] at hq
  cases hq
  exact hn
theorem add_run (x y : Nat) : ∃ (d : Nat) (s : World → Nat), (∀ w, (binOp .add 50 (.float .f64 x) (.float .f64 y)).run Tryd.prog w = .ok (.float .f64 (s w)) (w.drewN d)) ∧
  ((Ieee.double.add x y = none ∧ ∀ w, nanb (s w) = true) ∨ ∃ p, Ieee.double.add x y = some p ∧ nanb p = false ∧ s = fun _ => p) := by
 rcases he : Ieee.double.add x y with _ | p
 ·refine ⟨1, nd x y, fun w => ?_, .inl ⟨rfl, nd_nan x y⟩⟩
  have he' : FloatKind.f64.format.add x y = none := he
  simp [binOp, Op.floatArith, he', Question.forced]
  exact ⟨rfl, rfl⟩
 ·refine ⟨0, fun _ => p, fun w => run_float_arith (P := Tryd.prog) w .add 50 .f64 _ _ _ he, .inr ⟨p, rfl, ?_, rfl⟩⟩
  unfold nanb
  rw [decide_eq_false_iff_not]
  have hc : ¬ (nan x ∨ nan y ∨ clash x y) := fun h => by rw [add_none x y h] at he; cases he
  obtain ⟨q, hq, hn, _⟩ := add_some x y (fun h => hc (.inl h)) (fun h => hc (.inr (.inl h))) (fun h => hc (.inr (.inr h)))
  rw [he] at hq
  cases hq
  exact hn
/-- What Reach answers: the first lane, the last one, the error. -/
def rch (l : List Nat) (x r : Nat) : Nat × Nat × Int :=
 if chkE l = 0 then
  (if nanb x = true ∨ nanb r = true then (0, 0, 20)
  else if ltb r 0 = true then (0, 0, 22)
  else match Ieee.double.sub x r, Ieee.double.add x r with
   | some a, some b => (tLo l a b, tHi l a b, tEr l a b)
   | _, _ => (0, 0, 20))
 else (0, 0, chkE l)
/-- The value that Reach hands back. -/
def rchVal (t : Nat × Nat × Int) : Value := .tuple #[.agg #[.int .i64 t.1, .int .i64 t.2.1], .int .i64 t.2.2]
set_option maxHeartbeats 4000000 in
theorem reach_any (v : Value) (xs : List Nat) (x r : Nat) (h64 : r < 18446744073709551616) (w : World) (h : KF.IsL w w.heap.size v xs) : Calls Tryd.prog 73 #[v, .float .f64 x, .float .f64 r] w fun e w' => e = .returned (rchVal (rch xs x r)) ∧ Below w.heap.size w w' := by
 have olt : ∀ a b, (FloatKind.f64.format.order a b == some .lt) = ltb a b := fun _ _ => rfl
 have h1 : KF.IsL (w.alloc (.cells #[.int .i64 0, .int .i64 0] 101)) (w.alloc (.cells #[.int .i64 0, .int .i64 0] 101)).heap.size v xs := h.then (Below.al (Below.refl _ _) _)
 have HK := Lib.hid (check_any v xs _ h1)
 have HB0 := Lib.hid (Below.al (Below.refl w.heap.size w) (.cells #[.int .i64 0, .int .i64 0] 101))
 by_cases hz : chkE xs = 0
 ·obtain ⟨hr, b, off, cap, n, rfl, hn, hm, hb, hcell, hlt⟩ := rise_cells h1 hz
  rw [hz] at HK
  obtain ⟨ds, sV, hs, hs2⟩ := sub_run x r h64
  obtain ⟨da, aV, ha, ha2⟩ := add_run x r
  have HR := Lib.hid (show rch xs x r = (if nanb x = true ∨ nanb r = true then (0, 0, 20) else if ltb r 0 = true then (0, 0, 22) else match Ieee.double.sub x r, Ieee.double.add x r with
   | some a, some b => (tLo xs a b, tHi xs a b, tEr xs a b)
   | _, _ => (0, 0, 20)) by unfold rch; rw [if_pos hz])
  rcases Bool.eq_false_or_eq_true (nanb x) with hx | hx
  ·have T : rch xs x r = (0, 0, 20) := by rw [HR.out, if_pos (.inl hx)]
   rw [T]
   clear T HR hr hcell hlt hz h h1 hs2 ha2 hn
   unfold rchVal
   go_enter Tryd.func73, Tryd.ntmps73
   go_wp2_with fail
   refine HK.out.mono ?_
   rintro e w' ⟨rfl, rfl⟩
   go_wp2_with fail
   refine (isNone_any _ _).mono ?_
   rintro e w' ⟨rfl, rfl⟩
   go_wp2_with (go_at_call 89; refine (isNone_any _ _).mono ?_; rintro e w' ⟨rfl, rfl⟩)
   exact bodyPost_ret (v := .tuple #[.agg #[.int .i64 0, .int .i64 0], .int .i64 20]) (by simp [results, Tryd.results73, go_sem]) rfl ⟨rfl, Below.st (Below.st (below_drewN HB0.out _) (Nat.le_refl _)) (Nat.le_refl _)⟩
  ·rcases Bool.eq_false_or_eq_true (nanb r) with hy | hy
   ·have T : rch xs x r = (0, 0, 20) := by rw [HR.out, if_pos (.inr hy)]
    rw [T]
    clear T HR hr hcell hlt hz h h1 hs2 ha2 hn
    unfold rchVal
    go_enter Tryd.func73, Tryd.ntmps73
    go_wp2_with fail
    refine HK.out.mono ?_
    rintro e w' ⟨rfl, rfl⟩
    go_wp2_with (go_at_call 89; refine (isNone_any _ _).mono ?_; rintro e w' ⟨rfl, rfl⟩)
    exact bodyPost_ret (v := .tuple #[.agg #[.int .i64 0, .int .i64 0], .int .i64 20]) (by simp [results, Tryd.results73, go_sem]) rfl ⟨rfl, Below.st (Below.st (below_drewN HB0.out _) (Nat.le_refl _)) (Nat.le_refl _)⟩
   ·have hor : ¬ (nanb x = true ∨ nanb r = true) := by rw [hx, hy]; simp
    have HR2 := Lib.hid (HR.out.trans (if_neg hor))
    clear HR hor
    rcases Bool.eq_false_or_eq_true (ltb r 0) with hl | hl
    ·have T : rch xs x r = (0, 0, 22) := by rw [HR2.out, if_pos hl]
     rw [T]
     clear T HR2 hr hcell hlt hz h h1 hs2 ha2 hn
     unfold rchVal
     go_enter Tryd.func73, Tryd.ntmps73
     go_wp2_with fail
     refine HK.out.mono ?_
     rintro e w' ⟨rfl, rfl⟩
     go_wp2_with (go_at_call 89; refine (isNone_any _ _).mono ?_; rintro e w' ⟨rfl, rfl⟩)
     exact bodyPost_ret (v := .tuple #[.agg #[.int .i64 0, .int .i64 0], .int .i64 22]) (by simp [results, Tryd.results73, go_sem]) rfl ⟨rfl, Below.st (Below.st (below_drewN HB0.out _) (Nat.le_refl _)) (Nat.le_refl _)⟩
    ·have HR3 := Lib.hid (HR2.out.trans (if_neg (by rw [hl]; simp)))
     clear HR2
     rcases hs2 with ⟨es, hs2⟩ | ⟨a, es, hs2, rfl⟩
     ·have T : rch xs x r = (0, 0, 20) := by rw [HR3.out, es]
      rw [T]
      clear T HR3 hr hcell hlt hz h h1 ha2 hn es
      unfold rchVal
      go_enter Tryd.func73, Tryd.ntmps73
      go_wp2_with fail
      refine HK.out.mono ?_
      rintro e w' ⟨rfl, rfl⟩
      go_wp2_with (go_at_call 89; refine (isNone_any _ _).mono ?_; rintro e w' ⟨rfl, rfl⟩)
      exact bodyPost_ret (v := .tuple #[.agg #[.int .i64 0, .int .i64 0], .int .i64 20]) (by simp [results, Tryd.results73, go_sem]) rfl ⟨rfl, Below.st (Below.st (below_drewN HB0.out _) (Nat.le_refl _)) (Nat.le_refl _)⟩
     ·rcases ha2 with ⟨ea, ha2⟩ | ⟨q, ea, ha2, rfl⟩
      ·have T : rch xs x r = (0, 0, 20) := by rw [HR3.out, es, ea]
       rw [T]
       clear T HR3 hr hcell hlt hz h h1 hn es ea
       unfold rchVal
       go_enter Tryd.func73, Tryd.ntmps73
       go_wp2_with fail
       refine HK.out.mono ?_
       rintro e w' ⟨rfl, rfl⟩
       go_wp2_with (go_at_call 89; refine (isNone_any _ _).mono ?_; rintro e w' ⟨rfl, rfl⟩)
       exact bodyPost_ret (v := .tuple #[.agg #[.int .i64 0, .int .i64 0], .int .i64 20]) (by simp [results, Tryd.results73, go_sem]) rfl ⟨rfl, Below.st (Below.st (below_drewN HB0.out _) (Nat.le_refl _)) (Nat.le_refl _)⟩
      ·have T : rch xs x r = (tLo xs a q, tHi xs a q, tEr xs a q) := by rw [HR3.out, es, ea]
       have HT := Lib.hid (fun d => touched_any b off cap n xs hn hm ((w.alloc (.cells #[.int .i64 0, .int .i64 0] 101)).drewN d) hb hcell a q)
       rw [T]
       clear T HR3 hr hcell hlt hz h h1 hn es ea
       generalize tLo xs a q = A at *
       generalize tHi xs a q = B at *
       generalize tEr xs a q = C at *
       unfold rchVal
       dsimp only
       go_enter Tryd.func73, Tryd.ntmps73
       go_wp2_with fail
       refine HK.out.mono ?_
       rintro e w' ⟨rfl, rfl⟩
       go_wp2_with (first | (go_at_call 89; refine (isNone_any _ _).mono ?_; rintro e w' ⟨rfl, rfl⟩) | (go_at_call 90; refine (HT.out _).mono ?_; rintro e w2 ⟨rfl, hb2⟩; have r0 : w2.cell? ⟨w.heap.size, 0, none⟩ = some (.int .i64 0) := keep_cell hb2 (by simp); have r1 : w2.cell? ⟨w.heap.size, 1, none⟩ = some (.int .i64 0) := keep_cell hb2 (by simp); have z0 : w2.frozen? ⟨w.heap.size, 0, none⟩ = false := (hb2.frozen (p := ⟨w.heap.size, 0, none⟩) (by simp)).trans (by simp); have z1 : w2.frozen? ⟨w.heap.size, 1, none⟩ = false := (hb2.frozen (p := ⟨w.heap.size, 1, none⟩) (by simp)).trans (by simp); have HB2 := Lib.hid (Below.call (below_drewN HB0.out _) hb2); clear hb2))
       exact bodyPost_ret (v := .tuple #[.agg #[.int .i64 A, .int .i64 B], .int .i64 C]) (by simp [results, Tryd.results73, go_sem, r0, r1]) rfl ⟨rfl, Below.st (Below.st HB2.out (Nat.le_refl _)) (Nat.le_refl _)⟩
 ·have T : rch xs x r = (0, 0, chkE xs) := by unfold rch; rw [if_neg hz]
  rw [T]
  have hz' : (chkE xs != 0) = true := by rw [bne_iff_ne]; exact hz
  clear T h h1 hz
  generalize chkE xs = c at *
  unfold rchVal
  go_enter Tryd.func73, Tryd.ntmps73
  go_wp2_with fail
  refine HK.out.mono ?_
  rintro e w' ⟨rfl, rfl⟩
  go_wp2
  exact bodyPost_ret (v := .tuple #[.agg #[.int .i64 0, .int .i64 0], .int .i64 c]) (by simp [results, Tryd.results73, go_sem]) rfl ⟨rfl, HB0.out⟩
end Go.Proofs.YtmecohdedghiaaaDoor
namespace Go.Proofs.YtmecohdedghiaaaDoor
open Go.RowKit
/-- Lists of whole numbers. -/
noncomputable def KI : Lk Tryd.prog Int where
 S := 27
 E := 3
 n := 1
 zero := .int .i64 0
 bytes := 8
 cells x := [.int .i64 x]
 dflt := 0
 ok x := fits x
 und := Tryd.underlying27
 info := by kernel_rfl
 zs := rfl
 pos := by decide
 small := by decide
 len _ := rfl
 one x u hu := by rw [List.mem_singleton] at hu; subst hu; rfl
theorem KI.cells {w : World} {B : Nat} {v : Value} {xs : List Int} (h : KI.IsL w B v xs) (h0 : 0 < xs.length) : ∃ b off cap, v = .slice (some ⟨b, off, none⟩) xs.length cap ∧ xs.length ≤ cap ∧ b < B ∧ xs.length ≤ 9223372036854775807 ∧
  (∀ i, i < xs.length → w.cell? ⟨b, off + i, none⟩ = some (.int .i64 (xs.getD i 0))) ∧ (∀ i, i < xs.length → fits (xs.getD i 0)) := by
 obtain ⟨⟨A, cap, rfl, hc, hA⟩, hf, hl⟩ := h
 obtain ⟨b, off, rfl, hb, hcell⟩ := hA h0
 refine ⟨b, off, cap, rfl, hc, hb, hl, fun i hi => ?_, fun i hi => hf _ (getD_mem' xs i 0 hi)⟩
 have := hcell i hi 0 (.int .i64 (xs.getD i 0)) rfl
 simpa [KI] using this
theorem alloc_at (w : World) (cs : Array Value) (t : TypeId) (o : Nat) : (w.alloc (.cells cs t)).cell? ⟨w.heap.size, o, none⟩ = cs[o]? := by
 unfold World.cell?
 rw [heap_alloc_new]
 rfl
/-- A literal list, laid in a new block. -/
theorem Lk.IsL.lits {P : Program} {α : Type} {K : Lk P α} (w : World) (xs : List α) (cs : Array Value) (hx : ∀ x ∈ xs, K.ok x) (hcs : cs = (K.flat xs).toArray) (hl : xs.length ≤ 9223372036854775807) (H : Nat) (e : w.heap.size = H) :
  K.IsL (w.alloc (.cells cs K.E)) (H + 1) (.slice (some ⟨H, 0, none⟩) xs.length xs.length) xs := by
 subst e
 subst hcs
 refine ⟨⟨_, _, rfl, Nat.le_refl _, fun _ => ⟨_, _, rfl, Nat.lt_succ_self _, fun i hi j u hu => ?_⟩⟩, hx, hl⟩
 have hj : j < K.n := by
  have := (List.getElem?_eq_some_iff.1 hu).1
  rw [K.len] at this
  exact this
 rw [Nat.zero_add, alloc_at, List.getElem?_toArray, K.flat_at xs i j hi hj, hu]
end Go.Proofs.YtmecohdedghiaaaDoor
namespace Go.Proofs.YtmecohdedghiaaaDoor
open Go.RowKit
def ints (l : List Nat) : List Int := l.map Int.ofNat
theorem tchs_next (l : List Nat) (a b k : Nat) : ints (tchs l a b (k + 1)) = ints (tchs l a b k) ++ (if tchB l a b k = true then [(k : Int)] else []) := by
 unfold tchs ints
 rw [List.range_succ, List.filter_append, List.map_append]
 congr 1
 by_cases h : tchB l a b k = true
 ·rw [if_pos h]; simp [h]
 ·rw [if_neg h]; simp [h]
theorem tchs_len (l : List Nat) (a b k : Nat) : (ints (tchs l a b k)).length ≤ k := by
 unfold tchs ints
 rw [List.length_map]
 have := List.length_filter_le (tchB l a b) (List.range k)
 rw [List.length_range] at this
 exact this
theorem sub_le_add (x r a q : Nat) (h64 : r < 18446744073709551616) (hx : ¬ nan x) (hr : ¬ nan r) (h0 : 0 ≤ vf r) (es : Ieee.double.sub x r = some a) (ea : Ieee.double.add x r = some q) : ¬ nan a ∧ ¬ nan q ∧ vf a ≤ vf x ∧ vf x ≤ vf q := by
 have h1 : ¬ clashS x r := fun h => by rw [sub_none x r h64 (.inr (.inr h))] at es; cases es
 have h2 : ¬ clash x r := fun h => by rw [add_none x r (.inr (.inr h))] at ea; cases ea
 obtain ⟨p, e1, n1, _, v1⟩ := sub_some x r h64 hx hr h1
 obtain ⟨p2, e2, n2, _, v2⟩ := add_some x r hx hr h2
 rw [es] at e1
 rw [ea] at e2
 cases e1
 cases e2
 have hz : xv 0 = 0 := by
  unfold xv
  have : rg 0 = 0 := rfl
  rw [this, rw_0]
  unfold sg
  split <;> rfl
 have n0 : ¬ nan 0 := by unfold nan; omega
 have v0 : vf 0 = 0 := by
  have := RI_xv 0 n0
  rw [hz] at this
  rw [← this]
  unfold RI sg
  rw [if_neg (by decide)]
  exact congrArg _ R_0
 have hp : 0 ≤ xv r := by
  have := xv_mono n0 hr (by rw [v0]; exact h0)
  rw [hz] at this
  exact this
 have hxx := RI_xv x hx
 refine ⟨n1, n2, ?_, ?_⟩
 ·rw [v1, ← hxx]; exact RI_mono (by omega)
 ·rw [v2, ← hxx]; exact RI_mono (by omega)
theorem vf_0 : vf 0 = 0 := by
 unfold vf sg rg sb
 rfl
theorem ltb_0 (r : Nat) (hr : ¬ nan r) (h : ltb r 0 = false) : 0 ≤ vf r := by
 have n0 : ¬ nan 0 := by unfold nan; omega
 rw [ltb_num hr n0, vf_0, decide_eq_false_iff_not] at h
 omega
theorem rch_bad (l : List Nat) (x r : Nat) (hz : chkE l ≠ 0) : rch l x r = (0, 0, chkE l) := by unfold rch; rw [if_neg hz]
theorem rch_nan (l : List Nat) (x r : Nat) (hz : chkE l = 0) (h : nanb x = true ∨ nanb r = true) : rch l x r = (0, 0, 20) := by unfold rch; rw [if_pos hz, if_pos h]
theorem rch_neg (l : List Nat) (x r : Nat) (hz : chkE l = 0) (hx : nanb x = false) (hy : nanb r = false) (hl : ltb r 0 = true) : rch l x r = (0, 0, 22) := by unfold rch; rw [if_pos hz, if_neg (by rw [hx, hy]; simp), if_pos hl]
theorem rch_none (l : List Nat) (x r : Nat) (hz : chkE l = 0) (hx : nanb x = false) (hy : nanb r = false) (hl : ltb r 0 = false) (h : Ieee.double.sub x r = none ∨ Ieee.double.add x r = none) : rch l x r = (0, 0, 20) := by
 unfold rch
 rw [if_pos hz, if_neg (by rw [hx, hy]; simp), if_neg (by rw [hl]; simp)]
 rcases h with h | h
 ·rw [h]
 ·rw [h]
  cases Ieee.double.sub x r <;> rfl
theorem rch_some (l : List Nat) (x r a b : Nat) (hz : chkE l = 0) (hx : nanb x = false) (hy : nanb r = false) (hl : ltb r 0 = false) (h1 : Ieee.double.sub x r = some a) (h2 : Ieee.double.add x r = some b) : rch l x r = (tLo l a b, tHi l a b, tEr l a b) := by
 unfold rch
 rw [if_pos hz, if_neg (by rw [hx, hy]; simp), if_neg (by rw [hl]; simp), h1, h2]
end Go.Proofs.YtmecohdedghiaaaDoor
namespace Go.Proofs.YtmecohdedghiaaaDoor
open Go.RowKit
set_option maxHeartbeats 4000000 in
theorem rreach_0 (v : Value) (xs : List Nat) (x r : Nat) (h64 : r < 18446744073709551616) (w : World) (h : KF.IsL w w.heap.size v xs) (hno : chkE xs ≠ 0 ∨ nanb x = true ∨ nanb r = true ∨ ltb r 0 = true ∨ Ieee.double.sub x r = none ∨ Ieee.double.add x r = none) : Calls Tryd.prog 83 #[v, .float .f64 x, .float .f64 r] w fun e w' => e = .returned (rchVal (rch xs x r)) ∧ Below w.heap.size w w' := by
 have olt : ∀ a b, (FloatKind.f64.format.order a b == some .lt) = ltb a b := fun _ _ => rfl
 have h1 : KF.IsL (w.alloc (.cells #[.int .i64 0, .int .i64 0] 101)) (w.alloc (.cells #[.int .i64 0, .int .i64 0] 101)).heap.size v xs := h.then (Below.al (Below.refl _ _) _)
 have HK := Lib.hid (rcheck_any v xs _ h1)
 have HB0 := Lib.hid (Below.al (Below.refl w.heap.size w) (.cells #[.int .i64 0, .int .i64 0] 101))
 by_cases hz : chkE xs = 0
 ·rw [hz] at HK
  clear h h1
  obtain ⟨ds, sV, hs, hs2⟩ := sub_run x r h64
  obtain ⟨da, aV, ha, ha2⟩ := add_run x r
  rcases Bool.eq_false_or_eq_true (nanb x) with hx | hx
  ·have T : rch xs x r = (0, 0, 20) := rch_nan xs x r hz (.inl hx)
   rw [T]
   clear T hz hs2 ha2 hno hs ha
   unfold rchVal
   go_enter Tryd.func83, Tryd.ntmps83
   go_wp2_with fail
   refine HK.out.mono ?_
   rintro e w' ⟨rfl, d, rfl⟩
   go_wp2_with (go_at_call 91; refine (rnone_any _ _).mono ?_; rintro e w' ⟨rfl, rfl⟩)
   exact bodyPost_ret (v := .tuple #[.agg #[.int .i64 0, .int .i64 0], .int .i64 20]) (by simp [results, Tryd.results83, go_sem]) rfl ⟨rfl, Below.st (Below.st (below_drewN HB0.out _) (Nat.le_refl _)) (Nat.le_refl _)⟩
  ·rcases Bool.eq_false_or_eq_true (nanb r) with hy | hy
   ·have T : rch xs x r = (0, 0, 20) := rch_nan xs x r hz (.inr hy)
    rw [T]
    clear T hz hs2 ha2 hno hs ha
    unfold rchVal
    go_enter Tryd.func83, Tryd.ntmps83
    go_wp2_with fail
    refine HK.out.mono ?_
    rintro e w' ⟨rfl, d, rfl⟩
    go_wp2_with (go_at_call 91; refine (rnone_any _ _).mono ?_; rintro e w' ⟨rfl, rfl⟩)
    exact bodyPost_ret (v := .tuple #[.agg #[.int .i64 0, .int .i64 0], .int .i64 20]) (by simp [results, Tryd.results83, go_sem]) rfl ⟨rfl, Below.st (Below.st (below_drewN HB0.out _) (Nat.le_refl _)) (Nat.le_refl _)⟩
   ·rcases Bool.eq_false_or_eq_true (ltb r 0) with hl | hl
    ·have T : rch xs x r = (0, 0, 22) := rch_neg xs x r hz hx hy hl
     rw [T]
     clear T hz hs2 ha2 hno hs ha
     unfold rchVal
     go_enter Tryd.func83, Tryd.ntmps83
     go_wp2_with fail
     refine HK.out.mono ?_
     rintro e w' ⟨rfl, d, rfl⟩
     go_wp2_with (go_at_call 91; refine (rnone_any _ _).mono ?_; rintro e w' ⟨rfl, rfl⟩)
     exact bodyPost_ret (v := .tuple #[.agg #[.int .i64 0, .int .i64 0], .int .i64 22]) (by simp [results, Tryd.results83, go_sem]) rfl ⟨rfl, Below.st (Below.st (below_drewN HB0.out _) (Nat.le_refl _)) (Nat.le_refl _)⟩
    ·rcases hs2 with ⟨es, hs2⟩ | ⟨a, es, hs2, rfl⟩
     ·have T : rch xs x r = (0, 0, 20) := rch_none xs x r hz hx hy hl (.inl es)
      rw [T]
      clear T hz ha2 hno es
      unfold rchVal
      go_enter Tryd.func83, Tryd.ntmps83
      go_wp2_with fail
      refine HK.out.mono ?_
      rintro e w' ⟨rfl, d, rfl⟩
      go_wp2_with (go_at_call 91; refine (rnone_any _ _).mono ?_; rintro e w' ⟨rfl, rfl⟩)
      exact bodyPost_ret (v := .tuple #[.agg #[.int .i64 0, .int .i64 0], .int .i64 20]) (by simp [results, Tryd.results83, go_sem]) rfl ⟨rfl, Below.st (Below.st (below_drewN HB0.out _) (Nat.le_refl _)) (Nat.le_refl _)⟩
     ·rcases ha2 with ⟨ea, ha2⟩ | ⟨q, ea, ha2, rfl⟩
      ·have T : rch xs x r = (0, 0, 20) := rch_none xs x r hz hx hy hl (.inr ea)
       rw [T]
       clear T hz hno es ea
       unfold rchVal
       go_enter Tryd.func83, Tryd.ntmps83
       go_wp2_with fail
       refine HK.out.mono ?_
       rintro e w' ⟨rfl, d, rfl⟩
       go_wp2_with (go_at_call 91; refine (rnone_any _ _).mono ?_; rintro e w' ⟨rfl, rfl⟩)
       exact bodyPost_ret (v := .tuple #[.agg #[.int .i64 0, .int .i64 0], .int .i64 20]) (by simp [results, Tryd.results83, go_sem]) rfl ⟨rfl, Below.st (Below.st (below_drewN HB0.out _) (Nat.le_refl _)) (Nat.le_refl _)⟩
      ·exfalso
       rcases hno with h | h | h | h | h | h
       ·exact h hz
       ·rw [hx] at h; cases h
       ·rw [hy] at h; cases h
       ·rw [hl] at h; cases h
       ·rw [es] at h; cases h
       ·rw [ea] at h; cases h
 ·have T : rch xs x r = (0, 0, chkE xs) := rch_bad xs x r hz
  rw [T]
  have hz' : (chkE xs != 0) = true := by rw [bne_iff_ne]; exact hz
  clear T h h1 hz hno
  generalize chkE xs = c at *
  unfold rchVal
  go_enter Tryd.func83, Tryd.ntmps83
  go_wp2_with fail
  refine HK.out.mono ?_
  rintro e w' ⟨rfl, d, rfl⟩
  go_wp2
  exact bodyPost_ret (v := .tuple #[.agg #[.int .i64 0, .int .i64 0], .int .i64 c]) (by simp [results, Tryd.results83, go_sem]) rfl ⟨rfl, Below.st (Below.st (below_drewN HB0.out _) (Nat.le_refl _)) (Nat.le_refl _)⟩
set_option maxRecDepth 100000 in
set_option maxHeartbeats 4000000 in
theorem rreach_1 (v : Value) (xs : List Nat) (x r a q : Nat) (h64 : r < 18446744073709551616) (w : World) (h : KF.IsL w w.heap.size v xs) (hz : chkE xs = 0) (hx : nanb x = false) (hy : nanb r = false) (hl : ltb r 0 = false) (es : Ieee.double.sub x r = some a) (ea : Ieee.double.add x r = some q) :
  Calls Tryd.prog 83 #[v, .float .f64 x, .float .f64 r] w fun e w' => e = .returned (rchVal (tLo xs a q, tHi xs a q, tEr xs a q)) ∧ Below w.heap.size w w' := by
 have olt : ∀ a b, (FloatKind.f64.format.order a b == some .lt) = ltb a b := fun _ _ => rfl
 have h1 : KF.IsL (w.alloc (.cells #[.int .i64 0, .int .i64 0] 101)) (w.alloc (.cells #[.int .i64 0, .int .i64 0] 101)).heap.size v xs := h.then (Below.al (Below.refl _ _) _)
 have HK := Lib.hid (rcheck_any v xs _ h1)
 have HB0 := Lib.hid (Below.al (Below.refl w.heap.size w) (.cells #[.int .i64 0, .int .i64 0] 101))
 rw [hz] at HK
 obtain ⟨hr, b, off, cap, n, rfl, hn, hm, hb, hcell, hlt⟩ := rise_cells h1 hz
 obtain ⟨na, nq, s1, s2⟩ := sub_le_add x r a q h64 (nanb_of hx) (nanb_of hy) (ltb_0 r (nanb_of hy) hl) es ea
 have hs := fun w => run_float_arith (P := Tryd.prog) w .sub 50 .f64 _ _ _ es
 have ha := fun w => run_float_arith (P := Tryd.prog) w .add 50 .f64 _ _ _ ea
 have ha2 : nanb a = false := by unfold nanb; exact decide_eq_false na
 have hq2 : nanb q = false := by unfold nanb; exact decide_eq_false nq
 have HI := Lib.hid (tchs_in xs hr a q na nq (Int.le_trans s1 s2))
 have HO := Lib.hid (tchs_out xs hr a q na nq)
 have HSP := Lib.hid (fun ho => (lanes_spec xs hr a q na nq (Int.le_trans s1 s2) ho))
 have HT := Lib.hid (fun (w' : World) hc k hk => touches_any b off cap n xs hn hm w' hc k hk a q)
 have HN := Lib.hid (tchs_next xs a q)
 have HL := Lib.hid (tchs_len xs a q)
 have HC := Lib.hid hcell
 have hb' : b < w.heap.size + 1 := by simpa using hb
 have en : n + 2 - 1 = n + 1 := by omega
 have en2 : n + 2 - 2 = n := by omega
 rw [hn] at HK HC HI HO HSP
 rw [en] at HI HO HSP
 rw [en2] at HI HSP
 have HTH := Lib.hid (show tHi xs a q = if outB xs a q = true then 0 else hiV xs q n by unfold tHi; rw [hn, en2])
 rw [hn]
 simp only [hn] at HT
 clear h h1 hz hr hcell hlt hn hb es ea na nq s1 s2 en en2
 go_enter Tryd.func83, Tryd.ntmps83
 go_wp2_with fail
 refine HK.out.mono ?_
 rintro e w' ⟨rfl, d, rfl⟩
 go_wp2_with (go_at_call 91; refine (rnone_any _ _).mono ?_; rintro e w' ⟨rfl, rfl⟩)
 obtain ⟨w0, hw0⟩ : ∃ w0, w0 = (w.alloc (.cells #[.int .i64 0, .int .i64 0] 101)).drewN d := ⟨_, rfl⟩
 rw [← hw0]
 have hsz : w0.heap.size = w.heap.size + 1 := by rw [hw0]; simp
 have r0 : w0.cell? ⟨w.heap.size, 0, none⟩ = some (.int .i64 0) := by rw [hw0]; simp
 have r1 : w0.cell? ⟨w.heap.size, 1, none⟩ = some (.int .i64 0) := by rw [hw0]; simp
 have z0 : w0.frozen? ⟨w.heap.size, 0, none⟩ = false := by rw [hw0]; simp
 have z1 : w0.frozen? ⟨w.heap.size, 1, none⟩ = false := by rw [hw0]; simp
 have HC0 := Lib.hid (show ∀ i, i < n + 2 → w0.cell? ⟨b, off + i, none⟩ = some (.float .f64 (xs.getD i 0)) from fun i hi => by rw [hw0]; exact HC.out i hi)
 have HB1 := Lib.hid (show Below w.heap.size w w0 by rw [hw0]; exact below_drewN HB0.out _)
 have R0 := Lib.hid r0
 have R1 := Lib.hid r1
 have Z0 := Lib.hid z0
 have Z1 := Lib.hid z1
 have HSZ := Lib.hid hsz
 clear r0 r1 z0 z1 hw0 HB0 HC HK hsz hs ha ha2 hq2
 go_loopw [11, 12] (fun v i wr => ∃ k : Nat, k ≤ n + 1 ∧ i = .int .i64 k ∧ KI.Own wr w0.heap.size v (ints (tchs xs a q k)) ∧ Below w0.heap.size w0 wr) (fun _ i _ => n + 1 - (intOf i).toNat)
 case atStart => exact ⟨0, Nat.zero_le _, rfl, Lk.Own.nil _ _, Below.refl _ _⟩
 case round =>
  obtain ⟨k, hk, rfl, hown, hbl⟩ := hrel
  have HOW := Lib.hid hown
  have HB := Lib.hid hbl
  clear hown hbl
  by_cases hlt : k < n + 1
  ·have HTK := Lib.hid (HT.out wr (fun i hi => (HB.out.cell (p := ⟨b, off + i, none⟩) (by have := HSZ.out; show b < _; omega)).trans (HC0.out i hi)) k (by omega))
   have HNK := Lib.hid (HN.out k)
   have HLK := Lib.hid (HL.out k)
   generalize ints (tchs xs a q k) = L at *
   rcases Bool.eq_false_or_eq_true (tchB xs a q k) with g | g
   ·rw [g] at HTK HNK
    go_wp2_with fail
    refine HTK.out.mono ?_
    rintro e w' ⟨rfl, rfl⟩
    go_wp2_with (at_builtin; go_loud (refine Lk.wpList_app (K := KI) _ rfl _ _ rfl rfl w0.heap.size (wr.heap.size + 1) _ _ L [(k : Int)] rfl rfl (HOW.out.alloc _) (Lk.IsL.lit (K := KI) wr (k : Int) _ (show fits _ by unfold fits; omega) rfl _ rfl) ?c1 ?c2 ?_))
    case c1 => have := HLK.out; simp; omega
    case c2 => have := HB.out.size; simp; omega
    intro v1 w1 hown hgrow _
    have HB2 := Lib.hid (Lk.Own.grow' (HOW.out.alloc (.cells #[.int .i64 k] 3)) (Below.al HB.out _) (by have := HB.out.size; simp; omega) hgrow)
    have HO2 := Lib.hid hown
    clear hown hgrow
    go_wp2
    go_roundw
    case rel => exact ⟨k + 1, by omega, num_i (by omega), by rw [HNK.out]; exact HO2.out, HB2.out⟩
    case measure => simp [intOf]; omega
   ·rw [g] at HTK HNK
    go_wp2_with (go_at_call 92; refine HTK.out.mono ?_; rintro e w' ⟨rfl, rfl⟩)
    go_roundw
    case rel => exact ⟨k + 1, by omega, num_i (by omega), by rw [HNK.out]; simpa using HOW.out, HB.out⟩
    case measure => simp [intOf]; omega
  ·obtain rfl : k = n + 1 := by omega
   have HL' := Lib.hid (HL.out (n + 1))
   rcases Bool.eq_false_or_eq_true (outB xs a q) with ho | ho
   ·have T1 : tLo xs a q = 0 := by unfold tLo; rw [if_pos ho]
    have T2 : tHi xs a q = 0 := by unfold tHi; rw [if_pos ho]
    have T3 : tEr xs a q = 71 := by unfold tEr; rw [if_pos ho]
    have e : ints (tchs xs a q (n + 1)) = [] := by rw [HO.out ho]; rfl
    rw [e] at HOW
    obtain ⟨A, cap2, rfl⟩ : ∃ A cap, u11 = .slice A 0 cap := by
     obtain ⟨⟨A, cap, h, _⟩, _⟩ := HOW.out.isL (by simp)
     exact ⟨A, cap, h⟩
    have r0 := (HB.out.cell (p := ⟨w.heap.size, 0, none⟩) (by have := HSZ.out; show w.heap.size < _; omega)).trans R0.out
    have r1 := (HB.out.cell (p := ⟨w.heap.size, 1, none⟩) (by have := HSZ.out; show w.heap.size < _; omega)).trans R1.out
    have z0 := (HB.out.frozen (p := ⟨w.heap.size, 0, none⟩) (by have := HSZ.out; show w.heap.size < _; omega)).trans Z0.out
    have z1 := (HB.out.frozen (p := ⟨w.heap.size, 1, none⟩) (by have := HSZ.out; show w.heap.size < _; omega)).trans Z1.out
    have TT := Lib.hid (show rchVal (tLo xs a q, tHi xs a q, tEr xs a q) = .tuple #[.agg #[.int .i64 0, .int .i64 0], .int .i64 71] by rw [T1, T2, T3]; rfl)
    clear T1 T2 T3 e ho
    go_wp2
    exact bodyPost_ret (v := .tuple #[.agg #[.int .i64 0, .int .i64 0], .int .i64 71]) (by simp [results, Tryd.results83, go_sem, r0, r1]) rfl ⟨by rw [TT.out], Below.st (Below.st (HB1.out.trans (HB.out.mono HB1.out.size)) (Nat.le_refl _)) (Nat.le_refl _)⟩
   ·have hlo := HSP.out ho
    have T1 : tLo xs a q = loV xs a 0 := by unfold tLo; rw [ho, if_neg (by simp)]
    have T2 : tHi xs a q = hiV xs q n := by rw [HTH.out, ho, if_neg (by simp)]
    have T3 : tEr xs a q = 0 := by unfold tEr; rw [ho, if_neg (by simp)]
    have e : ints (tchs xs a q (n + 1)) = ints (List.range' (loV xs a 0) (hiV xs q n - loV xs a 0 + 1)) := by rw [HI.out ho]
    rw [e] at HOW
    obtain ⟨hlo, hhi, _⟩ := hlo
    generalize loV xs a 0 = lo at *
    generalize hiV xs q n = hi at *
    obtain ⟨m, rfl⟩ : ∃ m, hi = lo + m := ⟨hi - lo, by omega⟩
    rw [show lo + m - lo + 1 = m + 1 by omega] at HOW
    have hlen : (ints (List.range' lo (m + 1))).length = m + 1 := by simp [ints]
    obtain ⟨g, of2, cap2, rfl, hc2, hg, _, hcell2, _⟩ := KI.cells (HOW.out.isL (by rw [hlen]; omega)) (by rw [hlen]; omega)
    rw [hlen] at hcell2 hc2 ⊢
    have q0 := hcell2 0 (by omega)
    have q1 := hcell2 m (by omega)
    have g0 : (ints (List.range' lo (m + 1))).getD 0 0 = (lo : Int) := by simp [ints, List.range'_succ]
    have g1 : (ints (List.range' lo (m + 1))).getD m 0 = ((lo + m : Nat) : Int) := by
     rw [List.getD_eq_getElem?_getD]
     simp [ints]
    rw [g0, Nat.add_zero] at q0
    rw [g1] at q1
    have r0 := (HB.out.cell (p := ⟨w.heap.size, 0, none⟩) (by have := HSZ.out; show w.heap.size < _; omega)).trans R0.out
    have r1 := (HB.out.cell (p := ⟨w.heap.size, 1, none⟩) (by have := HSZ.out; show w.heap.size < _; omega)).trans R1.out
    have z0 := (HB.out.frozen (p := ⟨w.heap.size, 0, none⟩) (by have := HSZ.out; show w.heap.size < _; omega)).trans Z0.out
    have z1 := (HB.out.frozen (p := ⟨w.heap.size, 1, none⟩) (by have := HSZ.out; show w.heap.size < _; omega)).trans Z1.out
    have TT := Lib.hid (show rchVal (tLo xs a q, tHi xs a q, tEr xs a q) = .tuple #[.agg #[.int .i64 lo, .int .i64 ((lo + m : Nat) : Int)], .int .i64 0] by rw [T1, T2, T3]; rfl)
    clear T1 T2 T3 e ho hcell2 hlen g0 g1
    go_wp2
    go_region
    go_wp2
    have p0 : ((wr.setCell ⟨w.heap.size, 0, none⟩ (.int .i64 lo)).setCell ⟨w.heap.size, 1, none⟩ (.int .i64 ((lo : Int) + m))).cell? ⟨w.heap.size, 0, none⟩ = some (.int .i64 lo) := st_other (st_same r0) (by simp)
    have p1 : ((wr.setCell ⟨w.heap.size, 0, none⟩ (.int .i64 lo)).setCell ⟨w.heap.size, 1, none⟩ (.int .i64 ((lo : Int) + m))).cell? ⟨w.heap.size, 1, none⟩ = some (.int .i64 ((lo : Int) + m)) := st_same (st_other r1 (by simp))
    exact bodyPost_ret (v := .tuple #[.agg #[.int .i64 lo, .int .i64 ((lo : Int) + m)], .int .i64 0]) (by simp [results, Tryd.results83, go_sem, p0, p1]) rfl ⟨by rw [TT.out, Int.natCast_add], Below.drew (Below.st (Below.st (HB1.out.trans (HB.out.mono HB1.out.size)) (Nat.le_refl _)) (Nat.le_refl _))⟩
theorem rreach_any (v : Value) (xs : List Nat) (x r : Nat) (h64 : r < 18446744073709551616) (w : World) (h : KF.IsL w w.heap.size v xs) : Calls Tryd.prog 83 #[v, .float .f64 x, .float .f64 r] w fun e w' => e = .returned (rchVal (rch xs x r)) ∧ Below w.heap.size w w' := by
 by_cases hz : chkE xs = 0
 ·rcases hx : nanb x with _ | _
  ·rcases hy : nanb r with _ | _
   ·rcases hl : ltb r 0 with _ | _
    ·rcases es : Ieee.double.sub x r with _ | a
     ·exact rreach_0 v xs x r h64 w h (.inr (.inr (.inr (.inr (.inl es)))))
     ·rcases ea : Ieee.double.add x r with _ | q
      ·exact rreach_0 v xs x r h64 w h (.inr (.inr (.inr (.inr (.inr ea)))))
      ·rw [rch_some xs x r a q hz hx hy hl es ea]
       exact rreach_1 v xs x r a q h64 w h hz hx hy hl es ea
    ·exact rreach_0 v xs x r h64 w h (.inr (.inr (.inr (.inl hl))))
   ·exact rreach_0 v xs x r h64 w h (.inr (.inr (.inl hy)))
  ·exact rreach_0 v xs x r h64 w h (.inr (.inl hx))
 ·exact rreach_0 v xs x r h64 w h (.inl hz)
end Go.Proofs.YtmecohdedghiaaaDoor
namespace Go.Proofs.YtmecohdedghiaaaDoor
open Go.RowKit
/-- A plate: its numbers, where its volumes lie, and what they are. -/
structure Pl where
 rows : Int
 cols : Int
 x : Nat
 p : Nat
 r : Nat
 cap : Int
 sA : Option Addr
 sn : Nat
 sc : Nat
 st : List Int
structure Rk where
 rows : Int
 cols : Int
 x : Nat
 p : Nat
 r : Nat
/-- Four numbers. -/
structure Q4 where
 a : Int
 b : Int
 c : Int
 d : Int
 deriving DecidableEq
def plCells (q : Pl) : List Value := [.int .i64 q.rows, .int .i64 q.cols, .float .f64 q.x, .float .f64 q.p, .float .f64 q.r, .int .i64 q.cap, .slice q.sA q.sn q.sc]
def rkCells (q : Rk) : List Value := [.int .i64 q.rows, .int .i64 q.cols, .float .f64 q.x, .float .f64 q.p, .float .f64 q.r]
def q4Cells (q : Q4) : List Value := [.int .i64 q.a, .int .i64 q.b, .int .i64 q.c, .int .i64 q.d]
noncomputable def KP : Lk Tryd.prog Pl where
 S := 23
 E := 67
 n := 7
 zero := .agg #[.int .i64 0, .int .i64 0, .float .f64 0, .float .f64 0, .float .f64 0, .int .i64 0, .slice none 0 0]
 bytes := 72
 cells := plCells
 dflt := ⟨0, 0, 0, 0, 0, 0, none, 0, 0, []⟩
 ok q := fits q.rows ∧ fits q.cols ∧ q.x < 18446744073709551616 ∧ q.p < 18446744073709551616 ∧ q.r < 18446744073709551616 ∧ fits q.cap
 und := Tryd.underlying23
 info := by kernel_rfl
 zs := rfl
 pos := by decide
 small := by decide
 len _ := rfl
 one x u hu := by
  simp only [plCells, List.mem_cons, List.not_mem_nil, or_false] at hu
  rcases hu with rfl | rfl | rfl | rfl | rfl | rfl | rfl <;> rfl
noncomputable def KR : Lk Tryd.prog Rk where
 S := 24
 E := 69
 n := 5
 zero := .agg #[.int .i64 0, .int .i64 0, .float .f64 0, .float .f64 0, .float .f64 0]
 bytes := 40
 cells := rkCells
 dflt := ⟨0, 0, 0, 0, 0⟩
 ok q := fits q.rows ∧ fits q.cols ∧ q.x < 18446744073709551616 ∧ q.p < 18446744073709551616 ∧ q.r < 18446744073709551616
 und := Tryd.underlying24
 info := by kernel_rfl
 zs := rfl
 pos := by decide
 small := by decide
 len _ := rfl
 one x u hu := by
  simp only [rkCells, List.mem_cons, List.not_mem_nil, or_false] at hu
  rcases hu with rfl | rfl | rfl | rfl | rfl <;> rfl
noncomputable def KU : Lk Tryd.prog Q4 where
 S := 122
 E := 125
 n := 4
 zero := .agg #[.int .i64 0, .int .i64 0, .int .i64 0, .int .i64 0]
 bytes := 32
 cells := q4Cells
 dflt := ⟨0, 0, 0, 0⟩
 ok q := fits q.a ∧ fits q.b ∧ fits q.c ∧ fits q.d
 und := Tryd.underlying122
 info := by kernel_rfl
 zs := rfl
 pos := by decide
 small := by decide
 len _ := rfl
 one x u hu := by
  simp only [q4Cells, List.mem_cons, List.not_mem_nil, or_false] at hu
  rcases hu with rfl | rfl | rfl | rfl <;> rfl
noncomputable def KQ : Lk Tryd.prog Q4 where
 S := 109
 E := 90
 n := 4
 zero := .agg #[.int .i64 0, .int .i64 0, .int .i64 0, .int .i64 0]
 bytes := 32
 cells := q4Cells
 dflt := ⟨0, 0, 0, 0⟩
 ok q := fits q.a ∧ fits q.b ∧ fits q.c ∧ fits q.d
 und := Tryd.underlying109
 info := by kernel_rfl
 zs := rfl
 pos := by decide
 small := by decide
 len _ := rfl
 one x u hu := by
  simp only [q4Cells, List.mem_cons, List.not_mem_nil, or_false] at hu
  rcases hu with rfl | rfl | rfl | rfl <;> rfl
/-- A list's length is the slice's. -/
theorem Lk.IsL.len {P : Program} {α : Type} {K : Lk P α} {w : World} {B : Nat} {A : Option Addr} {n c : Nat} {xs : List α} (h : K.IsL w B (.slice A n c) xs) : n = xs.length := by
 obtain ⟨⟨A', c', hv, _⟩, _⟩ := h
 injection hv
/-- An element's cells. -/
theorem Lk.IsL.elem {P : Program} {α : Type} {K : Lk P α} {w : World} {B : Nat} {A : Option Addr} {n c : Nat} {xs : List α} (h : K.IsL w B (.slice A n c) xs) (h0 : 0 < xs.length) : ∃ b off, A = some ⟨b, off, none⟩ ∧ b < B ∧ xs.length ≤ c ∧
  ∀ i, i < xs.length → ∀ j u, (K.cells (xs.getD i K.dflt))[j]? = some u → w.cell? ⟨b, off + (i * K.n + j), none⟩ = some u := by
 obtain ⟨⟨A', c', hv, hc, hA⟩, _⟩ := h
 obtain ⟨b, off, rfl, hb, hcell⟩ := hA h0
 injection hv with e1 e2 e3
 exact ⟨b, off, e1, hb, by omega, hcell⟩
theorem Lk.IsL.okAt {P : Program} {α : Type} {K : Lk P α} {w : World} {B : Nat} {v : Value} {xs : List α} (h : K.IsL w B v xs) (i : Nat) (hi : i < xs.length) : K.ok (xs.getD i K.dflt) := h.2.1 _ (getD_mem' xs i _ hi)
/-- A deck: where its lists lie, and what they are. -/
structure Dk where
 bA : Option Addr
 bn : Nat
 bc : Nat
 bl : List Nat
 pA : Option Addr
 pn : Nat
 pc : Nat
 pl : List Pl
 rA : Option Addr
 rn : Nat
 rc : Nat
 rl : List Rk
 arms : Int
/-- A deck's value. -/
abbrev Dk.v (d : Dk) : Value := .agg #[.slice d.bA d.bn d.bc, .slice d.pA d.pn d.pc, .slice d.rA d.rn d.rc, .int .i64 d.arms]
/-- A deck that lies in memory below a block. -/
structure Dk.In (w : World) (B : Nat) (d : Dk) : Prop where
 b : KF.IsL w B (.slice d.bA d.bn d.bc) d.bl
 p : KP.IsL w B (.slice d.pA d.pn d.pc) d.pl
 r : KR.IsL w B (.slice d.rA d.rn d.rc) d.rl
 s : ∀ q ∈ d.pl, KI.IsL w B (.slice q.sA q.sn q.sc) q.st
 a : fits d.arms
theorem Dk.In.below {w w' : World} {B : Nat} {d : Dk} (h : d.In w B) (hb : Below B w w') : d.In w' B := ⟨h.b.below hb, h.p.below hb, h.r.below hb, fun q hq => (h.s q hq).below hb, h.a⟩
theorem Dk.In.more {w : World} {B B' : Nat} {d : Dk} (h : d.In w B) (hB : B ≤ B') : d.In w B' := ⟨h.b.more hB, h.p.more hB, h.r.more hB, fun q hq => (h.s q hq).more hB, h.a⟩
theorem Dk.In.then {w w' : World} {d : Dk} (h : d.In w w.heap.size) (hb : Below w.heap.size w w') : d.In w' w'.heap.size := (h.below hb).more hb.size
theorem Dk.In.drewN {w : World} {B : Nat} {d : Dk} (h : d.In w B) (n : Nat) : d.In (w.drewN n) B := ⟨h.b, h.p, h.r, h.s, h.a⟩
/-- May so many rows and columns be? -/
def sizeB (r c : Int) : Bool := decide (1 ≤ r ∧ r ≤ 32 ∧ 1 ≤ c ∧ c ≤ 48)
set_option maxHeartbeats 1000000 in
theorem rightSize_any (r c : Int) (w : World) : Calls Tryd.prog 70 #[.int .i64 r, .int .i64 c] w fun e w' => e = .returned (.bool (sizeB r c)) ∧ w = w' := by
 by_cases h1 : 1 ≤ r <;> by_cases h2 : r ≤ 32 <;> by_cases h3 : 1 ≤ c
 all_goals (try (exfalso; omega; done))
 all_goals
  go_enter Tryd.func70, Tryd.ntmps70
  go_wp2
  go_ret
  exact ⟨ret_b (by first | exact (decide_eq_false (by omega)).symm | exact (decide_eq_true (by omega)).symm | (rw [sizeB, Bool.eq_iff_iff]; simp only [decide_eq_true_eq]; omega)), rfl⟩
set_option maxHeartbeats 1000000 in
theorem box_any (r c : Int) (w : World) : Calls Tryd.prog 80 #[.int .i64 r, .int .i64 c] w fun e w' => e = .returned (.bool (sizeB r c)) ∧ w = w' := by
 by_cases h1 : 1 ≤ r <;> by_cases h2 : r ≤ 32 <;> by_cases h3 : 1 ≤ c
 all_goals (try (exfalso; omega; done))
 all_goals
  go_enter Tryd.func80, Tryd.ntmps80
  go_wp2
  go_ret
  exact ⟨ret_b (by first | exact (decide_eq_false (by omega)).symm | exact (decide_eq_true (by omega)).symm | (rw [sizeB, Bool.eq_iff_iff]; simp only [decide_eq_true_eq]; omega)), rfl⟩
theorem size_of {r c : Int} (h : sizeB r c = true) : 1 ≤ r ∧ r ≤ 32 ∧ 1 ≤ c ∧ c ≤ 48 := by unfold sizeB at h; simpa using h
theorem size_mul {r c : Int} (h : sizeB r c = true) : 1 ≤ r * c ∧ r * c ≤ 1536 := by
 obtain ⟨h1, h2, h3, h4⟩ := size_of h
 have a := Int.mul_le_mul h2 h4 (by omega) (by omega)
 have b := Int.mul_le_mul h1 h3 (by omega) (by omega)
 omega
end Go.Proofs.YtmecohdedghiaaaDoor
namespace Go.Proofs.YtmecohdedghiaaaDoor
open Go.RowKit
def okN (cap n : Int) : Bool := decide (0 ≤ n ∧ n ≤ cap)
def plateB (q : Pl) : Bool := sizeB q.rows q.cols && decide (1 ≤ q.cap ∧ q.cap ≤ 1099511627776 ∧ (q.st.length : Int) ≤ q.rows * q.cols) && q.st.all (okN q.cap)
/-- A plate's value. -/
abbrev Pl.v (q : Pl) : Value := .agg #[.int .i64 q.rows, .int .i64 q.cols, .float .f64 q.x, .float .f64 q.p, .float .f64 q.r, .int .i64 q.cap, .slice q.sA q.sn q.sc]
theorem plate_no1 (q : Pl) (h : sizeB q.rows q.cols = false) : plateB q = false := by unfold plateB; rw [h]; rfl
theorem plate_no2 (q : Pl) (h : ¬ (1 ≤ q.cap ∧ q.cap ≤ 1099511627776 ∧ (q.st.length : Int) ≤ q.rows * q.cols)) : plateB q = false := by unfold plateB; rw [decide_eq_false h]; simp
theorem plate_is (q : Pl) (h : sizeB q.rows q.cols = true) (h2 : 1 ≤ q.cap ∧ q.cap ≤ 1099511627776 ∧ (q.st.length : Int) ≤ q.rows * q.cols) : plateB q = q.st.all (okN q.cap) := by unfold plateB; rw [h, decide_eq_true h2]; simp
theorem all_no (l : List Int) (f : Int → Bool) (k : Nat) (h : k < l.length) (hf : f (l.getD k 0) = false) : l.all f = false := by
 rw [← Bool.not_eq_true, List.all_eq_true]
 intro hh
 have := hh _ (getD_mem' l k 0 h)
 rw [hf] at this
 cases this
theorem all_yes (l : List Int) (f : Int → Bool) (h : ∀ i, i < l.length → f (l.getD i 0) = true) : l.all f = true := by
 rw [List.all_eq_true]
 intro x hx
 obtain ⟨i, hi, rfl⟩ := List.mem_iff_getElem.1 hx
 have := h i hi
 rw [List.getD_eq_getElem?_getD, List.getElem?_eq_getElem hi] at this
 exact this
set_option maxRecDepth 100000 in
set_option maxHeartbeats 4000000 in
theorem rightPlate_any (q : Pl) (w : World) (hs : KI.IsL w w.heap.size (.slice q.sA q.sn q.sc) q.st) (hok : KP.ok q) : Calls Tryd.prog 69 #[q.v] w fun e w' => e = .returned (.bool (plateB q)) ∧ Below w.heap.size w w' := by
 have N1 := Lib.hid (plate_no1 q)
 have N2 := Lib.hid (plate_no2 q)
 have N3 := Lib.hid (plate_is q)
 have hn := hs.len
 have hl := hs.2.2
 have HCL := Lib.hid (fun h0 : 0 < q.st.length => KI.cells hs h0)
 obtain ⟨_, _, _, _, _, hcap⟩ := hok
 obtain ⟨B, hB⟩ : ∃ B, B = plateB q := ⟨_, rfl⟩
 rw [← hB] at N1 N2 N3 ⊢
 clear hB
 obtain ⟨rows, cols, x, p, r, cap, sA, sn, sc, st⟩ := q
 dsimp only at *
 subst hn
 clear hs
 unfold fits at hcap
 rcases Bool.eq_false_or_eq_true (sizeB rows cols) with h1 | h1
 ·obtain ⟨m1, m2⟩ := size_mul h1
  by_cases hc : 1 ≤ cap ∧ cap ≤ 1099511627776 ∧ (st.length : Int) ≤ rows * cols
  ·have hB := N3.out h1 hc
   obtain ⟨c1, c2, c3⟩ := hc
   have HB := Lib.hid hB
   have HN := Lib.hid (all_no st (okN cap))
   have HY := Lib.hid (all_yes st (okN cap))
   clear N1 N2 N3 hB
   go_enter Tryd.func69, Tryd.ntmps69
   go_wp2_with fail
   refine (rightSize_any _ _ _).mono ?_
   rintro e w' ⟨rfl, rfl⟩
   go_wp2
   go_loop [35] (fun i => ∃ k : Nat, k ≤ st.length ∧ i = .int .i64 k ∧ ∀ i, i < k → okN cap (st.getD i 0) = true) (fun i => st.length - (intOf i).toNat)
   case atStart => exact ⟨0, Nat.zero_le _, rfl, fun i hi => by omega⟩
   case round =>
    obtain ⟨k, hk, rfl, hall⟩ := hrel
    have HL := Lib.hid hall
    clear hall
    by_cases hlt : k < st.length
    ·obtain ⟨b, off, cp, hv, hc2, hbB, _, hcell, _⟩ := HCL.out (by omega)
     injection hv with e1 e2 e3
     subst e1 e3
     have hx := hcell k hlt
     have HN' := Lib.hid (HN.out k hlt)
     have HLS := Lib.hid (show ∀ (h : okN cap (st.getD k 0) = true) (i : Nat), i < k + 1 → okN cap (st.getD i 0) = true from fun h i hi => by
      by_cases e : i = k
      ·rw [e]; exact h
      ·exact HL.out i (by omega))
     clear hcell
     generalize st.getD k 0 = n at *
     by_cases g : 0 ≤ n ∧ n ≤ cap
     ·have HR := Lib.hid (HLS.out (decide_eq_true g))
      obtain ⟨g1, g2⟩ := g
      go_wp2
      go_round
      case rel => exact ⟨k + 1, by omega, num_i (by omega), HR.out⟩
      case measure => simp [intOf]; omega
     ·have HR := Lib.hid (HN'.out (decide_eq_false g))
      by_cases g1 : n < 0
      ·go_wp2
       go_ret
       exact ⟨ret_b (by rw [HB.out, HR.out]), Below.al (Below.refl _ _) _⟩
      ·have g2 : cap < n := by omega
       clear g
       go_wp2
       go_ret
       exact ⟨ret_b (by rw [HB.out, HR.out]), Below.al (Below.refl _ _) _⟩
    ·obtain rfl : k = st.length := by omega
     go_wp2
     go_ret
     exact ⟨ret_b (by rw [HB.out, HY.out HL.out]), Below.al (Below.refl _ _) _⟩
  ·obtain rfl := N2.out hc
   by_cases c1 : cap < 1
   ·clear hc
    go_enter Tryd.func69, Tryd.ntmps69
    go_wp2_with fail
    refine (rightSize_any _ _ _).mono ?_
    rintro e w' ⟨rfl, rfl⟩
    go_wp2
    go_ret
    exact ⟨rfl, Below.al (Below.refl _ _) _⟩
   ·by_cases c2 : 1099511627776 < cap
    ·clear hc
     go_enter Tryd.func69, Tryd.ntmps69
     go_wp2_with fail
     refine (rightSize_any _ _ _).mono ?_
     rintro e w' ⟨rfl, rfl⟩
     go_wp2
     go_ret
     exact ⟨rfl, Below.al (Below.refl _ _) _⟩
    ·have c3 : rows * cols < (st.length : Int) := by omega
     clear hc
     go_enter Tryd.func69, Tryd.ntmps69
     go_wp2_with fail
     refine (rightSize_any _ _ _).mono ?_
     rintro e w' ⟨rfl, rfl⟩
     go_wp2
     go_ret
     exact ⟨rfl, Below.al (Below.refl _ _) _⟩
 ·obtain rfl := N1.out h1
  go_enter Tryd.func69, Tryd.ntmps69
  go_wp2_with fail
  refine (rightSize_any _ _ _).mono ?_
  rintro e w' ⟨rfl, rfl⟩
  go_wp2
  go_ret
  exact ⟨rfl, Below.al (Below.refl _ _) _⟩
set_option maxRecDepth 100000 in
set_option maxHeartbeats 4000000 in
theorem rplate_any (q : Pl) (w : World) (hs : KI.IsL w w.heap.size (.slice q.sA q.sn q.sc) q.st) (hok : KP.ok q) : Calls Tryd.prog 79 #[q.v] w fun e w' => e = .returned (.bool (plateB q)) ∧ Below w.heap.size w w' := by
 have N1 := Lib.hid (plate_no1 q)
 have N2 := Lib.hid (plate_no2 q)
 have N3 := Lib.hid (plate_is q)
 have hn := hs.len
 have hl := hs.2.2
 have HCL := Lib.hid (fun h0 : 0 < q.st.length => KI.cells hs h0)
 obtain ⟨_, _, _, _, _, hcap⟩ := hok
 obtain ⟨B, hB⟩ : ∃ B, B = plateB q := ⟨_, rfl⟩
 rw [← hB] at N1 N2 N3 ⊢
 clear hB
 obtain ⟨rows, cols, x, p, r, cap, sA, sn, sc, st⟩ := q
 dsimp only at *
 subst hn
 clear hs
 unfold fits at hcap
 rcases Bool.eq_false_or_eq_true (sizeB rows cols) with h1 | h1
 ·obtain ⟨m1, m2⟩ := size_mul h1
  by_cases hc : 1 ≤ cap ∧ cap ≤ 1099511627776 ∧ (st.length : Int) ≤ rows * cols
  ·have hB := N3.out h1 hc
   obtain ⟨c1, c2, c3⟩ := hc
   have HB := Lib.hid hB
   have HN := Lib.hid (all_no st (okN cap))
   have HY := Lib.hid (all_yes st (okN cap))
   clear N1 N2 N3 hB
   go_enter Tryd.func79, Tryd.ntmps79
   go_wp2_with fail
   refine (box_any _ _ _).mono ?_
   rintro e w' ⟨rfl, rfl⟩
   go_wp2
   obtain ⟨w0, hw0⟩ : ∃ w0, w0 = w.alloc (.cells #[.int .i64 rows, .int .i64 cols, .float .f64 x, .float .f64 p, .float .f64 r, .int .i64 cap, .slice sA st.length sc] 67) := ⟨_, rfl⟩
   rw [← hw0]
   have f5 : w0.cell? ⟨w.heap.size, 5, none⟩ = some (.int .i64 cap) := by rw [hw0]; simp
   have f6 : w0.cell? ⟨w.heap.size, 6, none⟩ = some (.slice sA st.length sc) := by rw [hw0]; simp
   have HB0 := Lib.hid (show Below w.heap.size w w0 by rw [hw0]; exact Below.al (Below.refl _ _) _)
   clear hw0
   go_loopw [3] (fun i wr => ∃ k d : Nat, k ≤ st.length ∧ i = .int .i64 k ∧ wr = w0.drewN d ∧ ∀ i, i < k → okN cap (st.getD i 0) = true) (fun i _ => st.length - (intOf i).toNat)
   case atStart => exact ⟨0, 0, Nat.zero_le _, rfl, rfl, fun i hi => by omega⟩
   case round =>
    obtain ⟨k, d, hk, rfl, hw, hall⟩ := hrel
    have HL := Lib.hid hall
    have HW := Lib.hid hw
    have g5 : wr.cell? ⟨w.heap.size, 5, none⟩ = some (.int .i64 cap) := by rw [hw]; exact f5
    have g6 : wr.cell? ⟨w.heap.size, 6, none⟩ = some (.slice sA st.length sc) := by rw [hw]; exact f6
    have HBW := Lib.hid (show Below w.heap.size w wr by rw [hw]; exact below_drewN HB0.out _)
    clear hall hw
    by_cases hlt : k < st.length
    ·obtain ⟨b, off, cp, hv, hc2, hbB, _, hcell, _⟩ := HCL.out (by omega)
     injection hv with e1 e2 e3
     subst e1 e3
     have hx := (HBW.out.cell (p := ⟨b, off + k, none⟩) hbB).trans (hcell k hlt)
     have HN' := Lib.hid (HN.out k hlt)
     have HLS := Lib.hid (show ∀ (h : okN cap (st.getD k 0) = true) (i : Nat), i < k + 1 → okN cap (st.getD i 0) = true from fun h i hi => by
      by_cases e : i = k
      ·rw [e]; exact h
      ·exact HL.out i (by omega))
     clear hcell f5 f6
     generalize st.getD k 0 = n at *
     by_cases g : 0 ≤ n ∧ n ≤ cap
     ·have HR := Lib.hid (HLS.out (decide_eq_true g))
      obtain ⟨g1, g2⟩ := g
      have d1 : decide (n < 0) = false := decide_eq_false (by omega)
      have d2 : decide (cap < n) = false := decide_eq_false (by omega)
      go_wp2_with fail
      go_quiet (fail)
      go_wp2
      go_roundw
      case rel => obtain ⟨d2, hd2⟩ := drewN_two w0 d nq; exact ⟨k + 1, d2, by omega, num_i (by omega), by rw [HW.out]; exact hd2, HR.out⟩
      case measure => simp [intOf]; omega
     ·have HR := Lib.hid (HN'.out (decide_eq_false g))
      by_cases g1 : n < 0
      ·have d1 : decide (n < 0) = true := decide_eq_true g1
       go_wp2_with fail
       go_quiet (fail)
       go_wp2
       go_ret
       exact ⟨ret_b (by rw [HB.out, HR.out]), below_drewN HBW.out _⟩
      ·have d1 : decide (n < 0) = false := decide_eq_false (by omega)
       have d2 : decide (cap < n) = true := decide_eq_true (by omega)
       clear g
       go_wp2_with fail
       go_quiet (fail)
       go_wp2
       go_ret
       exact ⟨ret_b (by rw [HB.out, HR.out]), below_drewN HBW.out _⟩
    ·obtain rfl : k = st.length := by omega
     go_wp2
     go_ret
     exact ⟨ret_b (by rw [HB.out, HY.out HL.out]), HBW.out⟩
  ·obtain rfl := N2.out hc
   by_cases c1 : cap < 1
   ·clear hc
    go_enter Tryd.func79, Tryd.ntmps79
    go_wp2_with fail
    refine (box_any _ _ _).mono ?_
    rintro e w' ⟨rfl, rfl⟩
    go_wp2
    go_ret
    exact ⟨rfl, Below.al (Below.refl _ _) _⟩
   ·by_cases c2 : 1099511627776 < cap
    ·clear hc
     go_enter Tryd.func79, Tryd.ntmps79
     go_wp2_with fail
     refine (box_any _ _ _).mono ?_
     rintro e w' ⟨rfl, rfl⟩
     go_wp2
     go_ret
     exact ⟨rfl, Below.al (Below.refl _ _) _⟩
    ·have c3 : rows * cols < (st.length : Int) := by omega
     clear hc
     go_enter Tryd.func79, Tryd.ntmps79
     go_wp2_with fail
     refine (box_any _ _ _).mono ?_
     rintro e w' ⟨rfl, rfl⟩
     go_wp2
     go_ret
     exact ⟨rfl, Below.al (Below.refl _ _) _⟩
 ·obtain rfl := N1.out h1
  go_enter Tryd.func79, Tryd.ntmps79
  go_wp2_with fail
  refine (box_any _ _ _).mono ?_
  rintro e w' ⟨rfl, rfl⟩
  go_wp2
  go_ret
  exact ⟨rfl, Below.al (Below.refl _ _) _⟩
end Go.Proofs.YtmecohdedghiaaaDoor
namespace Go.Proofs.YtmecohdedghiaaaDoor
open Go.RowKit
/-- A plate's cells. -/
theorem plate_cells {w : World} {B : Nat} {A : Option Addr} {n c : Nat} {xs : List Pl} (h : KP.IsL w B (.slice A n c) xs) (h0 : 0 < xs.length) : ∃ b off, A = some ⟨b, off, none⟩ ∧ b < B ∧ xs.length ≤ c ∧
  ∀ i, i < xs.length → w.cell? ⟨b, off + i * 7, none⟩ = some (.int .i64 (xs.getD i KP.dflt).rows) ∧ w.cell? ⟨b, off + i * 7 + 1, none⟩ = some (.int .i64 (xs.getD i KP.dflt).cols) ∧ w.cell? ⟨b, off + i * 7 + 2, none⟩ = some (.float .f64 (xs.getD i KP.dflt).x) ∧
   w.cell? ⟨b, off + i * 7 + 3, none⟩ = some (.float .f64 (xs.getD i KP.dflt).p) ∧ w.cell? ⟨b, off + i * 7 + 4, none⟩ = some (.float .f64 (xs.getD i KP.dflt).r) ∧ w.cell? ⟨b, off + i * 7 + 5, none⟩ = some (.int .i64 (xs.getD i KP.dflt).cap) ∧
   w.cell? ⟨b, off + i * 7 + 6, none⟩ = some (.slice (xs.getD i KP.dflt).sA (xs.getD i KP.dflt).sn (xs.getD i KP.dflt).sc) := by
 obtain ⟨b, off, e, hb, hc, hcell⟩ := h.elem h0
 refine ⟨b, off, e, hb, hc, fun i hi => ?_⟩
 have q := fun j u hu => hcell i hi j u hu
 have hn : KP.n = 7 := rfl
 simp only [hn, ← Nat.add_assoc] at q
 exact ⟨q 0 _ rfl, q 1 _ rfl, q 2 _ rfl, q 3 _ rfl, q 4 _ rfl, q 5 _ rfl, q 6 _ rfl⟩
theorem rack_cells {w : World} {B : Nat} {A : Option Addr} {n c : Nat} {xs : List Rk} (h : KR.IsL w B (.slice A n c) xs) (h0 : 0 < xs.length) : ∃ b off, A = some ⟨b, off, none⟩ ∧ b < B ∧ xs.length ≤ c ∧
  ∀ i, i < xs.length → w.cell? ⟨b, off + i * 5, none⟩ = some (.int .i64 (xs.getD i KR.dflt).rows) ∧ w.cell? ⟨b, off + i * 5 + 1, none⟩ = some (.int .i64 (xs.getD i KR.dflt).cols) ∧ w.cell? ⟨b, off + i * 5 + 2, none⟩ = some (.float .f64 (xs.getD i KR.dflt).x) ∧
   w.cell? ⟨b, off + i * 5 + 3, none⟩ = some (.float .f64 (xs.getD i KR.dflt).p) ∧ w.cell? ⟨b, off + i * 5 + 4, none⟩ = some (.float .f64 (xs.getD i KR.dflt).r) := by
 obtain ⟨b, off, e, hb, hc, hcell⟩ := h.elem h0
 refine ⟨b, off, e, hb, hc, fun i hi => ?_⟩
 have q := fun j u hu => hcell i hi j u hu
 have hn : KR.n = 5 := rfl
 simp only [hn, ← Nat.add_assoc] at q
 exact ⟨q 0 _ rfl, q 1 _ rfl, q 2 _ rfl, q 3 _ rfl, q 4 _ rfl⟩
theorem q4_cells {K : Lk Tryd.prog Q4} (hK : K.n = 4) (hC : K.cells = q4Cells) (hD : K.dflt = ⟨0, 0, 0, 0⟩) {w : World} {B : Nat} {A : Option Addr} {n c : Nat} {xs : List Q4} (h : K.IsL w B (.slice A n c) xs) (h0 : 0 < xs.length) : ∃ b off, A = some ⟨b, off, none⟩ ∧ b < B ∧ xs.length ≤ c ∧
  ∀ i, i < xs.length → w.cell? ⟨b, off + i * 4, none⟩ = some (.int .i64 (xs.getD i ⟨0, 0, 0, 0⟩).a) ∧ w.cell? ⟨b, off + i * 4 + 1, none⟩ = some (.int .i64 (xs.getD i ⟨0, 0, 0, 0⟩).b) ∧
   w.cell? ⟨b, off + i * 4 + 2, none⟩ = some (.int .i64 (xs.getD i ⟨0, 0, 0, 0⟩).c) ∧ w.cell? ⟨b, off + i * 4 + 3, none⟩ = some (.int .i64 (xs.getD i ⟨0, 0, 0, 0⟩).d) := by
 obtain ⟨b, off, e, hb, hc, hcell⟩ := h.elem h0
 refine ⟨b, off, e, hb, hc, fun i hi => ?_⟩
 have q := fun j u hu => hcell i hi j u hu
 rw [hK, hC, hD] at q
 simp only [← Nat.add_assoc] at q
 exact ⟨q 0 _ rfl, q 1 _ rfl, q 2 _ rfl, q 3 _ rfl⟩
/-- How many places there are. -/
def wellsV (l : List Pl) : Int := (l.map fun q => q.rows * q.cols).sum
def tipsV (l : List Rk) : Int := (l.map fun q => q.rows * q.cols).sum
theorem wells_snoc (l : List Pl) (k : Nat) (h : k < l.length) : wellsV (l.take (k + 1)) = wellsV (l.take k) + (l.getD k KP.dflt).rows * (l.getD k KP.dflt).cols := by
 rw [take_snoc l k KP.dflt h]
 unfold wellsV
 rw [List.map_append, List.sum_append]
 simp
theorem tips_snoc (l : List Rk) (k : Nat) (h : k < l.length) : tipsV (l.take (k + 1)) = tipsV (l.take k) + (l.getD k KR.dflt).rows * (l.getD k KR.dflt).cols := by
 rw [take_snoc l k KR.dflt h]
 unfold tipsV
 rw [List.map_append, List.sum_append]
 simp
theorem wells_bd (l : List Pl) (h : ∀ i, i < l.length → sizeB (l.getD i KP.dflt).rows (l.getD i KP.dflt).cols = true) : ∀ k, k ≤ l.length → (k : Int) ≤ wellsV (l.take k) ∧ wellsV (l.take k) ≤ 1536 * k := by
 intro k
 induction k with
 | zero => intro _; simp [wellsV]
 | succ k ih =>
  intro hk
  obtain ⟨i1, i2⟩ := ih (by omega)
  rw [wells_snoc l k (by omega)]
  obtain ⟨m1, m2⟩ := size_mul (h k (by omega))
  omega
theorem tips_bd (l : List Rk) (h : ∀ i, i < l.length → sizeB (l.getD i KR.dflt).rows (l.getD i KR.dflt).cols = true) : ∀ k, k ≤ l.length → (k : Int) ≤ tipsV (l.take k) ∧ tipsV (l.take k) ≤ 1536 * k := by
 intro k
 induction k with
 | zero => intro _; simp [tipsV]
 | succ k ih =>
  intro hk
  obtain ⟨i1, i2⟩ := ih (by omega)
  rw [tips_snoc l k (by omega)]
  obtain ⟨m1, m2⟩ := size_mul (h k (by omega))
  omega
theorem alloc_cell (w : World) (c : Array Value) (t : TypeId) (i : Nat) (v : Value) (h : c[i]? = some v) : (w.alloc (.cells c t)).cell? ⟨w.heap.size, i, none⟩ = some v := by rw [World.cell?_alloc_at (hn := rfl), h]
theorem run_store_float {P : Program} {w : World} {a : Addr} {m : Mode} (k : FloatKind) (b : Nat) : (store a (.float k b) m).run P w = stored P w a (.float k b) m := run_store P w a _ m rfl
set_option maxRecDepth 100000 in
set_option maxHeartbeats 4000000 in
theorem places_any (d : Dk) (w : World) (hd : d.In w w.heap.size) (hp : d.pl.length ≤ 4) (hr : d.rl.length ≤ 4) (h1 : ∀ i, i < d.pl.length → sizeB (d.pl.getD i KP.dflt).rows (d.pl.getD i KP.dflt).cols = true)
  (h2 : ∀ i, i < d.rl.length → sizeB (d.rl.getD i KR.dflt).rows (d.rl.getD i KR.dflt).cols = true) :
  Calls Tryd.prog 71 #[d.v] w fun e w' => e = .returned (.tuple #[.int .i64 (wellsV d.pl), .int .i64 (tipsV d.rl)]) ∧ Below w.heap.size w w' := by
 have HW := Lib.hid (wells_bd d.pl h1)
 have HT := Lib.hid (tips_bd d.rl h2)
 have H1 := Lib.hid h1
 have H2 := Lib.hid h2
 have HD := Lib.hid hd
 have HSW := Lib.hid (wells_snoc d.pl)
 have HST := Lib.hid (tips_snoc d.rl)
 have e1 := hd.p.len
 have e2 := hd.r.len
 obtain ⟨bA, bn, bc, bl, pA, pn, pc, pl, rA, rn, rc, rl, arms⟩ := d
 dsimp only at *
 subst e1 e2
 clear h1 h2 hd
 have hsf := fun (w : World) (a : Addr) (m : Mode) (b : Nat) => run_store_float (P := Tryd.prog) (w := w) (a := a) (m := m) .f64 b
 go_enter Tryd.func71, Tryd.ntmps71
 go_wp2
 obtain ⟨w0, hw0⟩ : ∃ w0, w0 = w.alloc (.cells #[.slice bA bn bc, .slice pA pl.length pc, .slice rA rl.length rc, .int .i64 arms] 26) := ⟨_, rfl⟩
 rw [← hw0]
 have f2 : w0.cell? ⟨w.heap.size, 2, none⟩ = some (.slice rA rl.length rc) := by rw [hw0]; exact alloc_cell _ _ _ _ _ rfl
 have HB0 := Lib.hid (show Below w.heap.size w w0 by rw [hw0]; exact Below.al (Below.refl _ _) _)
 have HD0 := Lib.hid (HD.out.then HB0.out)
 have F2 := Lib.hid f2
 clear hw0 f2
 go_loopw [2, 11] (fun s i wr => ∃ k : Nat, k ≤ pl.length ∧ i = .int .i64 k ∧ s = .int .i64 (wellsV (pl.take k)) ∧ Below w0.heap.size w0 wr) (fun _ i _ => pl.length - (intOf i).toNat)
 case atStart => exact ⟨0, Nat.zero_le _, rfl, rfl, Below.refl _ _⟩
 case round =>
  obtain ⟨k, hk, rfl, rfl, hbl⟩ := hrel
  have HB := Lib.hid hbl
  clear hbl
  obtain ⟨b1, b2⟩ := HW.out k hk
  by_cases hlt : k < pl.length
  ·obtain ⟨b, off, rfl, hb, hc, hcell⟩ := plate_cells (HD0.out.p.below HB.out) (by dsimp only; omega)
   obtain ⟨c0, c1, c2, c3, c4, c5, c6⟩ := hcell k hlt
   have HS := Lib.hid (HSW.out k hlt)
   obtain ⟨m1, m2⟩ := size_mul (H1.out k hlt)
   clear hcell
   dsimp only at *
   generalize pl.getD k KP.dflt = q at *
   generalize wellsV (pl.take k) = s at *
   go_wp2
   go_roundw
   case rel => exact ⟨k + 1, by omega, num_i (by omega), num_i (by rw [HS.out]), Below.al HB.out _⟩
   case measure => simp [intOf]; omega
  ·obtain rfl : k = pl.length := by omega
   rw [List.take_length]
   rw [List.take_length] at b1 b2
   have g2 := keep_cell HB.out F2.out
   generalize hs : wellsV pl = s at *
   have HSS := Lib.hid hs
   clear hs
   go_wp2
   obtain ⟨w1, hw1⟩ : ∃ w1, w1 = wr := ⟨_, rfl⟩
   subst hw1
   have HD1 := Lib.hid (HD0.out.then HB.out)
   clear g2
   go_loopw [3, 26] (fun s i wr => ∃ k : Nat, k ≤ rl.length ∧ i = .int .i64 k ∧ s = .int .i64 (tipsV (rl.take k)) ∧ Below w1.heap.size w1 wr) (fun _ i _ => rl.length - (intOf i).toNat)
   case atStart => exact ⟨0, Nat.zero_le _, rfl, rfl, Below.refl _ _⟩
   case round =>
    obtain ⟨k, hk, rfl, rfl, hbl⟩ := hrel
    have HB2 := Lib.hid hbl
    clear hbl
    obtain ⟨t1, t2⟩ := HT.out k hk
    by_cases hlt : k < rl.length
    ·obtain ⟨b, off, rfl, hb, hc, hcell⟩ := rack_cells (HD1.out.r.below HB2.out) (by dsimp only; omega)
     obtain ⟨c0, c1, c2, c3, c4⟩ := hcell k hlt
     have HS := Lib.hid (HST.out k hlt)
     obtain ⟨m1, m2⟩ := size_mul (H2.out k hlt)
     clear hcell
     dsimp only at *
     generalize rl.getD k KR.dflt = q at *
     generalize tipsV (rl.take k) = t at *
     go_wp2
     go_roundw
     case rel => exact ⟨k + 1, by omega, num_i (by omega), num_i (by rw [HS.out]), Below.al HB2.out _⟩
     case measure => simp [intOf]; omega
    ·obtain rfl : k = rl.length := by omega
     rw [List.take_length]
     generalize hs : tipsV rl = t at *
     have HTT := Lib.hid hs
     clear hs
     go_wp2
     go_ret2
     exact ⟨by rw [HSS.out, HTT.out]; rfl, Below.call HB0.out (Below.call HB.out HB2.out)⟩
end Go.Proofs.YtmecohdedghiaaaDoor
namespace Go.Proofs.YtmecohdedghiaaaDoor
open Go.RowKit
def rackB (q : Rk) : Bool := sizeB q.rows q.cols
/-- What is wrong with a deck. -/
def dchk (d : Dk) : Int :=
 if chkE d.bl ≠ 0 then chkE d.bl
 else if ¬ (1 ≤ d.arms ∧ d.arms ≤ 8) then 80
 else if 4 < d.pl.length ∨ 4 < d.rl.length then 2
 else if d.pl.all plateB = false then 81
 else if d.rl.all rackB = false then 82
 else if 384 < wellsV d.pl ∨ 384 < tipsV d.rl then 2 else 0
theorem all_no' {α : Type} (l : List α) (z : α) (f : α → Bool) (k : Nat) (h : k < l.length) (hf : f (l.getD k z) = false) : l.all f = false := by
 rw [← Bool.not_eq_true, List.all_eq_true]
 intro hh
 have := hh _ (getD_mem' l k z h)
 rw [hf] at this
 cases this
theorem all_yes' {α : Type} (l : List α) (z : α) (f : α → Bool) (h : ∀ i, i < l.length → f (l.getD i z) = true) : l.all f = true := by
 rw [List.all_eq_true]
 intro x hx
 obtain ⟨i, hi, rfl⟩ := List.mem_iff_getElem.1 hx
 have := h i hi
 rw [List.getD_eq_getElem?_getD, List.getElem?_eq_getElem hi] at this
 exact this
theorem plate_size {q : Pl} (h : plateB q = true) : sizeB q.rows q.cols = true := by
 cases hs : sizeB q.rows q.cols
 ·rw [plate_no1 q hs] at h; cases h
 ·rfl
theorem dchk_b (d : Dk) (h : chkE d.bl ≠ 0) : dchk d = chkE d.bl := by unfold dchk; rw [if_pos h]
theorem dchk_a (d : Dk) (h : chkE d.bl = 0) (h1 : ¬ (1 ≤ d.arms ∧ d.arms ≤ 8)) : dchk d = 80 := by unfold dchk; rw [if_neg (by simp [h]), if_pos h1]
theorem dchk_l (d : Dk) (h : chkE d.bl = 0) (h1 : 1 ≤ d.arms ∧ d.arms ≤ 8) (h2 : 4 < d.pl.length ∨ 4 < d.rl.length) : dchk d = 2 := by unfold dchk; rw [if_neg (by simp [h]), if_neg (by simp [h1]), if_pos h2]
theorem dchk_p (d : Dk) (h : chkE d.bl = 0) (h1 : 1 ≤ d.arms ∧ d.arms ≤ 8) (h2 : ¬ (4 < d.pl.length ∨ 4 < d.rl.length)) (h3 : d.pl.all plateB = false) : dchk d = 81 := by unfold dchk; rw [if_neg (by simp [h]), if_neg (by simp [h1]), if_neg h2, if_pos h3]
theorem dchk_r (d : Dk) (h : chkE d.bl = 0) (h1 : 1 ≤ d.arms ∧ d.arms ≤ 8) (h2 : ¬ (4 < d.pl.length ∨ 4 < d.rl.length)) (h3 : d.pl.all plateB = true) (h4 : d.rl.all rackB = false) : dchk d = 82 := by unfold dchk; rw [if_neg (by simp [h]), if_neg (by simp [h1]), if_neg h2, if_neg (by simp [h3]), if_pos h4]
theorem dchk_n (d : Dk) (h : chkE d.bl = 0) (h1 : 1 ≤ d.arms ∧ d.arms ≤ 8) (h2 : ¬ (4 < d.pl.length ∨ 4 < d.rl.length)) (h3 : d.pl.all plateB = true) (h4 : d.rl.all rackB = true) : dchk d = if 384 < wellsV d.pl ∨ 384 < tipsV d.rl then 2 else 0 := by unfold dchk; rw [if_neg (by simp [h]), if_neg (by simp [h1]), if_neg h2, if_neg (by simp [h3]), if_neg (by simp [h4])]
set_option maxRecDepth 100000 in
set_option maxHeartbeats 4000000 in
theorem dcheck_any (d : Dk) (w : World) (hd : d.In w w.heap.size) : Calls Tryd.prog 55 #[d.v] w fun e w' => e = .returned (.int .i64 (dchk d)) ∧ Below w.heap.size w w' := by
 have HD := Lib.hid hd
 have B1 := Lib.hid (dchk_b d)
 have B2 := Lib.hid (dchk_a d)
 have B3 := Lib.hid (dchk_l d)
 have B4 := Lib.hid (dchk_p d)
 have B5 := Lib.hid (dchk_r d)
 have B6 := Lib.hid (dchk_n d)
 have HPN := Lib.hid (all_no' d.pl KP.dflt plateB)
 have HPY := Lib.hid (all_yes' d.pl KP.dflt plateB)
 have HRN := Lib.hid (all_no' d.rl KR.dflt rackB)
 have HRY := Lib.hid (all_yes' d.rl KR.dflt rackB)
 have e0 := hd.b.len
 have e1 := hd.p.len
 have e2 := hd.r.len
 have ha := hd.a
 have HPL := Lib.hid (fun w h => places_any d w h)
 obtain ⟨C, hC⟩ : ∃ C, C = dchk d := ⟨_, rfl⟩
 rw [← hC] at B1 B2 B3 B4 B5 B6 ⊢
 clear hC
 obtain ⟨bA, bn, bc, bl, pA, pn, pc, pl, rA, rn, rc, rl, arms⟩ := d
 dsimp only at *
 subst e0 e1 e2
 unfold fits at ha
 clear hd
 have hsf := fun (w : World) (a : Addr) (m : Mode) (b : Nat) => run_store_float (P := Tryd.prog) (w := w) (a := a) (m := m) .f64 b
 obtain ⟨w0, hw0⟩ : ∃ w0, w0 = w.alloc (.cells #[.slice bA bl.length bc, .slice pA pl.length pc, .slice rA rl.length rc, .int .i64 arms] 26) := ⟨_, rfl⟩
 have f0 : w0.cell? ⟨w.heap.size, 0, none⟩ = some (.slice bA bl.length bc) := by rw [hw0]; exact alloc_cell _ _ _ _ _ rfl
 have f1 : w0.cell? ⟨w.heap.size, 1, none⟩ = some (.slice pA pl.length pc) := by rw [hw0]; exact alloc_cell _ _ _ _ _ rfl
 have f2 : w0.cell? ⟨w.heap.size, 2, none⟩ = some (.slice rA rl.length rc) := by rw [hw0]; exact alloc_cell _ _ _ _ _ rfl
 have f3 : w0.cell? ⟨w.heap.size, 3, none⟩ = some (.int .i64 arms) := by rw [hw0]; exact alloc_cell _ _ _ _ _ rfl
 have HB0 := Lib.hid (show Below w.heap.size w w0 by rw [hw0]; exact Below.al (Below.refl _ _) _)
 have HD0 := Lib.hid (HD.out.then HB0.out)
 have HK := Lib.hid (check_any _ bl w0 HD0.out.b)
 by_cases hz : chkE bl = 0
 ·rw [hz] at HK
  by_cases h1 : 1 ≤ arms ∧ arms ≤ 8
  ·obtain ⟨a1, a2⟩ := h1
   by_cases h2 : 4 < pl.length ∨ 4 < rl.length
   ·obtain rfl := B3.out hz ⟨a1, a2⟩ h2
    clear B1 B2 B3 B4 B5 B6 hz
    by_cases p4 : 4 < pl.length
    ·clear h2
     go_enter Tryd.func55, Tryd.ntmps55
     go_wp2_with fail
     rw [← hw0]
     clear hw0
     refine HK.out.mono ?_
     rintro e w' ⟨rfl, rfl⟩
     go_wp2
     go_ret
     exact ⟨rfl, HB0.out⟩
    ·have r4 : 4 < rl.length := by omega
     clear h2
     go_enter Tryd.func55, Tryd.ntmps55
     go_wp2_with fail
     rw [← hw0]
     clear hw0
     refine HK.out.mono ?_
     rintro e w' ⟨rfl, rfl⟩
     go_wp2
     go_ret
     exact ⟨rfl, HB0.out⟩
   ·have p4 : pl.length ≤ 4 := by omega
    have r4 : rl.length ≤ 4 := by omega
    have C4 := Lib.hid (B4.out hz ⟨a1, a2⟩ h2)
    have C5 := Lib.hid (B5.out hz ⟨a1, a2⟩ h2)
    have C6 := Lib.hid (B6.out hz ⟨a1, a2⟩ h2)
    clear B1 B2 B3 B4 B5 B6 h2 hz
    go_enter Tryd.func55, Tryd.ntmps55
    go_wp2_with fail
    rw [← hw0]
    clear hw0
    refine HK.out.mono ?_
    rintro e w' ⟨rfl, rfl⟩
    have g0 := Lib.hid f0
    have g1 := Lib.hid f1
    have g3 := Lib.hid f3
    go_wp2
    clear f0 f1 f3
    have F2 := Lib.hid f2
    have F0 := Lib.hid (show ∀ w1, Below w0.heap.size w0 w1 → w1.cell? ⟨w.heap.size, 0, none⟩ = some (.slice bA bl.length bc) ∧ w1.cell? ⟨w.heap.size, 1, none⟩ = some (.slice pA pl.length pc) ∧ w1.cell? ⟨w.heap.size, 2, none⟩ = some (.slice rA rl.length rc) ∧ w1.cell? ⟨w.heap.size, 3, none⟩ = some (.int .i64 arms) from
     fun w1 hb => ⟨keep_cell hb g0.out, keep_cell hb g1.out, keep_cell hb f2, keep_cell hb g3.out⟩)
    clear f2
    go_loopw [39] (fun i wr => ∃ k : Nat, k ≤ pl.length ∧ i = .int .i64 k ∧ (∀ i, i < k → plateB (pl.getD i KP.dflt) = true) ∧ Below w0.heap.size w0 wr) (fun i _ => pl.length - (intOf i).toNat)
    case atStart => exact ⟨0, Nat.zero_le _, rfl, fun i hi => by omega, Below.refl _ _⟩
    case round =>
     obtain ⟨k, hk, rfl, hall, hbl⟩ := hrel
     have HB := Lib.hid hbl
     have HL := Lib.hid hall
     clear hbl hall
     by_cases hlt : k < pl.length
     ·obtain ⟨b, off, rfl, hb, hc, hcell⟩ := plate_cells (HD0.out.p.below HB.out) (by dsimp only; omega)
      obtain ⟨c0, c1, c2, c3, c4, c5, c6⟩ := hcell k hlt
      have HRP := Lib.hid (fun w1 (hb1 : Below w0.heap.size w0 w1) => rightPlate_any (pl.getD k KP.dflt) w1 (((HD0.out.s _ (getD_mem' pl k KP.dflt hlt)).below hb1).more hb1.size) (HD0.out.p.okAt k hlt))
      have HPN' := Lib.hid (HPN.out k hlt)
      have HLS := Lib.hid (show ∀ (h : plateB (pl.getD k KP.dflt) = true) (i : Nat), i < k + 1 → plateB (pl.getD i KP.dflt) = true from fun h i hi => by
       by_cases e : i = k
       ·rw [e]; exact h
       ·exact HL.out i (by omega))
      clear hcell
      dsimp only at *
      generalize pl.getD k KP.dflt = q at *
      rcases Bool.eq_false_or_eq_true (plateB q) with g | g
      ·have HR := Lib.hid (HLS.out g)
       rw [g] at HRP
       go_wp2_with fail
       refine (HRP.out _ (Below.al HB.out _)).mono ?_
       rintro e w2 ⟨rfl, hb2⟩
       have HB2 := Lib.hid (Below.call (Below.al HB.out _) hb2)
       clear hb2
       go_wp2
       go_roundw
       case rel => exact ⟨k + 1, by omega, num_i (by omega), HR.out, HB2.out⟩
       case measure => simp [intOf]; omega
      ·have HR := Lib.hid (C4.out (HPN'.out g))
       rw [g] at HRP
       go_wp2_with fail
       refine (HRP.out _ (Below.al HB.out _)).mono ?_
       rintro e w2 ⟨rfl, hb2⟩
       have HB2 := Lib.hid (Below.call (Below.al HB.out _) hb2)
       clear hb2
       go_wp2
       go_ret
       exact ⟨ret_i HR.out.symm, Below.call HB0.out HB2.out⟩
     ·obtain rfl : k = pl.length := by omega
      have HPA := Lib.hid (HPY.out HL.out)
      obtain ⟨g0', g1', g2', g3'⟩ := F0.out wr HB.out
      clear HPY HPN HL C4
      go_wp2
      obtain ⟨w1, hw1⟩ : ∃ w1, w1 = wr := ⟨_, rfl⟩
      subst hw1
      have HD1 := Lib.hid (HD0.out.then HB.out)
      clear g0' g1' g2' g3'
      go_loopw [50] (fun i wr => ∃ k : Nat, k ≤ rl.length ∧ i = .int .i64 k ∧ (∀ i, i < k → rackB (rl.getD i KR.dflt) = true) ∧ Below w1.heap.size w1 wr) (fun i _ => rl.length - (intOf i).toNat)
      case atStart => exact ⟨0, Nat.zero_le _, rfl, fun i hi => by omega, Below.refl _ _⟩
      case round =>
       obtain ⟨k, hk, rfl, hall, hbl⟩ := hrel
       have HB2 := Lib.hid hbl
       have HL := Lib.hid hall
       clear hbl hall
       by_cases hlt : k < rl.length
       ·obtain ⟨b, off, rfl, hb, hc, hcell⟩ := rack_cells (HD1.out.r.below HB2.out) (by dsimp only; omega)
        obtain ⟨c0, c1, c2, c3, c4⟩ := hcell k hlt
        have HRN' := Lib.hid (HRN.out k hlt)
        have HLS := Lib.hid (show ∀ (h : rackB (rl.getD k KR.dflt) = true) (i : Nat), i < k + 1 → rackB (rl.getD i KR.dflt) = true from fun h i hi => by
         by_cases e : i = k
         ·rw [e]; exact h
         ·exact HL.out i (by omega))
        clear hcell
        dsimp only at *
        generalize rl.getD k KR.dflt = q at *
        rcases Bool.eq_false_or_eq_true (sizeB q.rows q.cols) with g | g
        ·have HR := Lib.hid (HLS.out g)
         go_wp2_with fail
         refine (rightSize_any _ _ _).mono ?_
         rintro e w' ⟨rfl, rfl⟩
         go_wp2
         go_roundw
         case rel => exact ⟨k + 1, by omega, num_i (by omega), HR.out, Below.al HB2.out _⟩
         case measure => simp [intOf]; omega
        ·have HR := Lib.hid (C5.out HPA.out (HRN'.out g))
         go_wp2_with fail
         refine (rightSize_any _ _ _).mono ?_
         rintro e w' ⟨rfl, rfl⟩
         go_wp2
         go_ret
         exact ⟨ret_i HR.out.symm, Below.call HB0.out (Below.call HB.out (Below.al HB2.out _))⟩
       ·obtain rfl : k = rl.length := by omega
        have HRA := Lib.hid (HRY.out HL.out)
        have HCC := Lib.hid (C6.out HPA.out HRA.out)
        have HB3 := Lib.hid (HB.out.trans (HB2.out.mono HB.out.size))
        obtain ⟨g0', g1', g2', g3'⟩ := F0.out wr HB3.out
        have HPP := Lib.hid (HPL.out wr (HD0.out.then HB3.out) p4 r4 (fun i hi => plate_size (List.all_eq_true.1 HPA.out _ (getD_mem' pl i _ hi))) (fun i hi => List.all_eq_true.1 HRA.out _ (getD_mem' rl i _ hi)))
        clear HRY HRN HL C5 C6 HPL
        generalize wellsV pl = s at *
        generalize tipsV rl = t at *
        by_cases hs : 384 < s
        ·have HF := Lib.hid (HCC.out.trans (if_pos (.inl hs)))
         clear HCC
         go_wp2_with fail
         refine HPP.out.mono ?_
         rintro e w4 ⟨rfl, hb4⟩
         have HB4 := Lib.hid hb4
         clear hb4
         go_wp2
         go_ret
         exact ⟨ret_i HF.out.symm, Below.call HB0.out (Below.call HB3.out HB4.out)⟩
        ·by_cases ht : 384 < t
         ·have HF := Lib.hid (HCC.out.trans (if_pos (.inr ht)))
          clear HCC
          go_wp2_with fail
          refine HPP.out.mono ?_
          rintro e w4 ⟨rfl, hb4⟩
          have HB4 := Lib.hid hb4
          clear hb4
          go_wp2
          go_ret
          exact ⟨ret_i HF.out.symm, Below.call HB0.out (Below.call HB3.out HB4.out)⟩
         ·have HF := Lib.hid (HCC.out.trans (if_neg (by omega)))
          clear HCC
          go_wp2_with fail
          refine HPP.out.mono ?_
          rintro e w4 ⟨rfl, hb4⟩
          have HB4 := Lib.hid hb4
          clear hb4
          go_wp2
          go_ret
          exact ⟨ret_i HF.out.symm, Below.call HB0.out (Below.call HB3.out HB4.out)⟩
  ·obtain rfl := B2.out hz h1
   clear B1 B2 B3 B4 B5 B6 hz
   by_cases a1 : arms < 1
   ·clear h1
    go_enter Tryd.func55, Tryd.ntmps55
    go_wp2_with fail
    rw [← hw0]
    clear hw0
    refine HK.out.mono ?_
    rintro e w' ⟨rfl, rfl⟩
    go_wp2
    go_ret
    exact ⟨rfl, HB0.out⟩
   ·have a2 : 8 < arms := by omega
    clear h1
    go_enter Tryd.func55, Tryd.ntmps55
    go_wp2_with fail
    rw [← hw0]
    clear hw0
    refine HK.out.mono ?_
    rintro e w' ⟨rfl, rfl⟩
    go_wp2
    go_ret
    exact ⟨rfl, HB0.out⟩
 ·obtain rfl := B1.out hz
  have hz' : (chkE bl != 0) = true := by rw [bne_iff_ne]; exact hz
  clear B1 B2 B3 B4 B5 B6 hz
  generalize chkE bl = c at *
  go_enter Tryd.func55, Tryd.ntmps55
  go_wp2_with fail
  rw [← hw0]
  clear hw0
  refine HK.out.mono ?_
  rintro e w' ⟨rfl, rfl⟩
  go_wp2
  go_ret
  exact ⟨rfl, HB0.out⟩
end Go.Proofs.YtmecohdedghiaaaDoor
namespace Go.Proofs.YtmecohdedghiaaaDoor
open Go.RowKit
set_option maxRecDepth 100000 in
set_option maxHeartbeats 4000000 in
theorem rdcheck_any (d : Dk) (w : World) (hd : d.In w w.heap.size) : Calls Tryd.prog 62 #[d.v] w fun e w' => e = .returned (.int .i64 (dchk d)) ∧ Below w.heap.size w w' := by
 have HD := Lib.hid hd
 have B1 := Lib.hid (dchk_b d)
 have B2 := Lib.hid (dchk_a d)
 have B3 := Lib.hid (dchk_l d)
 have B4 := Lib.hid (dchk_p d)
 have B5 := Lib.hid (dchk_r d)
 have B6 := Lib.hid (dchk_n d)
 have HPN := Lib.hid (all_no' d.pl KP.dflt plateB)
 have HPY := Lib.hid (all_yes' d.pl KP.dflt plateB)
 have HRN := Lib.hid (all_no' d.rl KR.dflt rackB)
 have HRY := Lib.hid (all_yes' d.rl KR.dflt rackB)
 have HSW := Lib.hid (wells_snoc d.pl)
 have HST := Lib.hid (tips_snoc d.rl)
 have e0 := hd.b.len
 have e1 := hd.p.len
 have e2 := hd.r.len
 have ha := hd.a
 obtain ⟨C, hC⟩ : ∃ C, C = dchk d := ⟨_, rfl⟩
 rw [← hC] at B1 B2 B3 B4 B5 B6 ⊢
 clear hC
 obtain ⟨bA, bn, bc, bl, pA, pn, pc, pl, rA, rn, rc, rl, arms⟩ := d
 dsimp only at *
 subst e0 e1 e2
 unfold fits at ha
 clear hd
 obtain ⟨w0, hw0⟩ : ∃ w0, w0 = w.alloc (.cells #[.slice bA bl.length bc, .slice pA pl.length pc, .slice rA rl.length rc, .int .i64 arms] 26) := ⟨_, rfl⟩
 have f0 : w0.cell? ⟨w.heap.size, 0, none⟩ = some (.slice bA bl.length bc) := by rw [hw0]; exact alloc_cell _ _ _ _ _ rfl
 have f1 : w0.cell? ⟨w.heap.size, 1, none⟩ = some (.slice pA pl.length pc) := by rw [hw0]; exact alloc_cell _ _ _ _ _ rfl
 have f2 : w0.cell? ⟨w.heap.size, 2, none⟩ = some (.slice rA rl.length rc) := by rw [hw0]; exact alloc_cell _ _ _ _ _ rfl
 have f3 : w0.cell? ⟨w.heap.size, 3, none⟩ = some (.int .i64 arms) := by rw [hw0]; exact alloc_cell _ _ _ _ _ rfl
 have HB0 := Lib.hid (show Below w.heap.size w w0 by rw [hw0]; exact Below.al (Below.refl _ _) _)
 have HD0 := Lib.hid (HD.out.then HB0.out)
 have HK := Lib.hid (rcheck_any _ bl w0 HD0.out.b)
 by_cases hz : chkE bl = 0
 ·rw [hz] at HK
  by_cases h1 : 1 ≤ arms ∧ arms ≤ 8
  ·obtain ⟨a1, a2⟩ := h1
   by_cases h2 : 4 < pl.length ∨ 4 < rl.length
   ·obtain rfl := B3.out hz ⟨a1, a2⟩ h2
    clear B1 B2 B3 B4 B5 B6 hz
    by_cases p4 : 4 < pl.length
    ·clear h2
     go_enter Tryd.func62, Tryd.ntmps62
     go_wp2_with fail
     rw [← hw0]
     clear hw0
     refine HK.out.mono ?_
     rintro e w' ⟨rfl, d, rfl⟩
     go_wp2
     go_ret
     exact ⟨rfl, below_drewN HB0.out _⟩
    ·have r4 : 4 < rl.length := by omega
     clear h2
     go_enter Tryd.func62, Tryd.ntmps62
     go_wp2_with fail
     rw [← hw0]
     clear hw0
     refine HK.out.mono ?_
     rintro e w' ⟨rfl, d, rfl⟩
     go_wp2
     go_ret
     exact ⟨rfl, below_drewN HB0.out _⟩
   ·have p4 : pl.length ≤ 4 := by omega
    have r4 : rl.length ≤ 4 := by omega
    have C4 := Lib.hid (B4.out hz ⟨a1, a2⟩ h2)
    have C5 := Lib.hid (B5.out hz ⟨a1, a2⟩ h2)
    have C6 := Lib.hid (B6.out hz ⟨a1, a2⟩ h2)
    clear B1 B2 B3 B4 B5 B6 h2 hz
    have F0 := Lib.hid (show ∀ w1, Below w0.heap.size w0 w1 → w1.cell? ⟨w.heap.size, 1, none⟩ = some (.slice pA pl.length pc) ∧ w1.cell? ⟨w.heap.size, 2, none⟩ = some (.slice rA rl.length rc) from
     fun w1 hb => ⟨keep_cell hb f1, keep_cell hb f2⟩)
    go_enter Tryd.func62, Tryd.ntmps62
    go_wp2_with fail
    rw [← hw0]
    clear hw0
    refine HK.out.mono ?_
    rintro e wd ⟨rfl, dd, hwd⟩
    have HBD := Lib.hid (show Below w0.heap.size w0 wd by rw [hwd]; exact below_drewN (Below.refl _ _) _)
    have k0 := keep_cell HBD.out f0
    have k1 := keep_cell HBD.out f1
    have k2 := keep_cell HBD.out f2
    have k3 := keep_cell HBD.out f3
    clear hwd f0 f1 f2 f3
    go_wp2
    clear k0 k1 k2 k3
    go_loopw [4, 6] (fun s i wr => ∃ k : Nat, k ≤ pl.length ∧ i = .int .i64 k ∧ s = .int .i64 (wellsV (pl.take k)) ∧ (k : Int) ≤ wellsV (pl.take k) ∧ wellsV (pl.take k) ≤ 1536 * k ∧ (∀ i, i < k → plateB (pl.getD i KP.dflt) = true) ∧ Below w0.heap.size w0 wr) (fun _ i _ => pl.length - (intOf i).toNat)
    case atStart => exact ⟨0, Nat.zero_le _, rfl, rfl, by simp [wellsV], by simp [wellsV], fun i hi => by omega, HBD.out⟩
    case round =>
     obtain ⟨k, hk, rfl, rfl, b1, b2, hall, hbl⟩ := hrel
     have HB := Lib.hid hbl
     have HL := Lib.hid hall
     clear hbl hall
     obtain ⟨q1, q2⟩ := F0.out wr HB.out
     by_cases hlt : k < pl.length
     ·obtain ⟨b, off, rfl, hb, hc, hcell⟩ := plate_cells (HD0.out.p.below HB.out) (by dsimp only; omega)
      obtain ⟨c0, c1, c2, c3, c4, c5, c6⟩ := hcell k hlt
      have HRP := Lib.hid (rplate_any (pl.getD k KP.dflt) wr (((HD0.out.s _ (getD_mem' pl k KP.dflt hlt)).below HB.out).more HB.out.size) (HD0.out.p.okAt k hlt))
      have HPN' := Lib.hid (HPN.out k hlt)
      have HS := Lib.hid (HSW.out k hlt)
      have HLS := Lib.hid (show ∀ (h : plateB (pl.getD k KP.dflt) = true) (i : Nat), i < k + 1 → plateB (pl.getD i KP.dflt) = true from fun h i hi => by
       by_cases e : i = k
       ·rw [e]; exact h
       ·exact HL.out i (by omega))
      have HPS := Lib.hid (fun h => plate_size (q := pl.getD k KP.dflt) h)
      clear hcell
      dsimp only at *
      generalize pl.getD k KP.dflt = q at *
      generalize wellsV (pl.take k) = s at *
      rcases Bool.eq_false_or_eq_true (plateB q) with g | g
      ·have HR := Lib.hid (HLS.out g)
       rw [g] at HRP
       obtain ⟨m1, m2⟩ := size_mul (HPS.out g)
       have hok := HD0.out
       go_wp2_with fail
       refine HRP.out.mono ?_
       rintro e w2 ⟨rfl, hb2⟩
       have y1 := keep_cell hb2 q1
       have y2 := keep_cell hb2 c0
       have y3 := keep_cell hb2 c1
       have HB2 := Lib.hid (Below.call HB.out hb2)
       clear hb2 q1 q2 c0 c1 c2 c3 c4 c5 c6 hok
       go_wp2_with fail
       go_quiet (fail)
       go_wp2
       go_roundw
       case rel => exact ⟨k + 1, by omega, num_i (by omega), num_i (by rw [HS.out]), by rw [HS.out]; omega, by rw [HS.out]; omega, HR.out, below_drewN HB2.out _⟩
       case measure => simp [intOf]; omega
      ·have HR := Lib.hid (C4.out (HPN'.out g))
       rw [g] at HRP
       go_wp2_with fail
       refine HRP.out.mono ?_
       rintro e w2 ⟨rfl, hb2⟩
       have HB2 := Lib.hid (Below.call HB.out hb2)
       clear hb2
       go_wp2
       go_ret
       exact ⟨ret_i HR.out.symm, Below.call HB0.out HB2.out⟩
     ·obtain rfl : k = pl.length := by omega
      have HPA := Lib.hid (HPY.out HL.out)
      rw [List.take_length] at b1 b2 ⊢
      generalize hs : wellsV pl = s at *
      clear hs
      clear HPY HPN HL C4 HSW
      go_wp2
      obtain ⟨w1, hw1⟩ : ∃ w1, w1 = wr := ⟨_, rfl⟩
      subst hw1
      clear q1 q2
      go_loopw [5, 7] (fun s i wr => ∃ k : Nat, k ≤ rl.length ∧ i = .int .i64 k ∧ s = .int .i64 (tipsV (rl.take k)) ∧ (k : Int) ≤ tipsV (rl.take k) ∧ tipsV (rl.take k) ≤ 1536 * k ∧ (∀ i, i < k → rackB (rl.getD i KR.dflt) = true) ∧ Below w0.heap.size w0 wr) (fun _ i _ => rl.length - (intOf i).toNat)
      case atStart => exact ⟨0, Nat.zero_le _, rfl, rfl, by simp [tipsV], by simp [tipsV], fun i hi => by omega, HB.out⟩
      case round =>
       obtain ⟨k, hk, rfl, rfl, t1, t2, hall, hbl⟩ := hrel
       have HB2 := Lib.hid hbl
       have HL := Lib.hid hall
       clear hbl hall
       obtain ⟨q1, q2⟩ := F0.out wr HB2.out
       by_cases hlt : k < rl.length
       ·obtain ⟨b, off, rfl, hb, hc, hcell⟩ := rack_cells (HD0.out.r.below HB2.out) (by dsimp only; omega)
        obtain ⟨c0, c1, c2, c3, c4⟩ := hcell k hlt
        have HRN' := Lib.hid (HRN.out k hlt)
        have HS := Lib.hid (HST.out k hlt)
        have HLS := Lib.hid (show ∀ (h : rackB (rl.getD k KR.dflt) = true) (i : Nat), i < k + 1 → rackB (rl.getD i KR.dflt) = true from fun h i hi => by
         by_cases e : i = k
         ·rw [e]; exact h
         ·exact HL.out i (by omega))
        clear hcell
        dsimp only at *
        generalize rl.getD k KR.dflt = q at *
        generalize tipsV (rl.take k) = t at *
        rcases Bool.eq_false_or_eq_true (sizeB q.rows q.cols) with g | g
        ·have HR := Lib.hid (HLS.out g)
         obtain ⟨m1, m2⟩ := size_mul g
         have HBX := Lib.hid (fun n => show Calls Tryd.prog 80 #[.int .i64 q.rows, .int .i64 q.cols] (wr.drewN n) fun e w' => e = .returned (.bool true) ∧ w' = wr.drewN n from (box_any q.rows q.cols (wr.drewN n)).mono fun _ _ x => ⟨by rw [x.1, g], x.2.symm⟩)
         go_wp2_with fail
         go_quiet ((go_at_call 80; exact Calls.quiet_of_same (HBX.out _)))
         have y2 : (wr.drewN nq).cell? ⟨w.heap.size, 2, none⟩ = some (.slice (some ⟨b, off, none⟩) rl.length rc) := q2
         have y0 : (wr.drewN nq).cell? ⟨b, off + k * 5, none⟩ = some (.int .i64 q.rows) := c0
         have y1 : (wr.drewN nq).cell? ⟨b, off + k * 5 + 1, none⟩ = some (.int .i64 q.cols) := c1
         have HB3 := Lib.hid (below_drewN HB2.out nq)
         clear q1 q2 c0 c1 c2 c3 c4 HBX HB2
         generalize wr.drewN nq = w3 at *
         go_wp2_with fail
         go_quiet (fail)
         go_wp2
         go_roundw
         case rel => exact ⟨k + 1, by omega, num_i (by omega), num_i (by rw [HS.out]), by rw [HS.out]; omega, by rw [HS.out]; omega, HR.out, below_drewN HB3.out _⟩
         case measure => simp [intOf]; omega
        ·have HR := Lib.hid (C5.out HPA.out (HRN'.out g))
         have HBX := Lib.hid (fun n => show Calls Tryd.prog 80 #[.int .i64 q.rows, .int .i64 q.cols] (wr.drewN n) fun e w' => e = .returned (.bool false) ∧ w' = wr.drewN n from (box_any q.rows q.cols (wr.drewN n)).mono fun _ _ x => ⟨by rw [x.1, g], x.2.symm⟩)
         go_wp2_with fail
         go_quiet ((go_at_call 80; exact Calls.quiet_of_same (HBX.out _)))
         go_wp2
         go_ret
         exact ⟨ret_i HR.out.symm, Below.call HB0.out (below_drewN HB2.out _)⟩
       ·obtain rfl : k = rl.length := by omega
        have HRA := Lib.hid (HRY.out HL.out)
        have HCC := Lib.hid (C6.out HPA.out HRA.out)
        rw [List.take_length] at t1 t2 ⊢
        clear HRY HRN HL C5 C6 HST
        generalize hs : tipsV rl = t at *
        clear hs
        by_cases hs : 384 < s
        ·have HF := Lib.hid (HCC.out.trans (if_pos (.inl hs)))
         clear HCC
         go_wp2
         go_ret
         exact ⟨ret_i HF.out.symm, Below.call HB0.out HB2.out⟩
        ·by_cases ht : 384 < t
         ·have HF := Lib.hid (HCC.out.trans (if_pos (.inr ht)))
          clear HCC
          go_wp2
          go_ret
          exact ⟨ret_i HF.out.symm, Below.call HB0.out HB2.out⟩
         ·have HF := Lib.hid (HCC.out.trans (if_neg (by omega)))
          clear HCC
          go_wp2
          go_ret
          exact ⟨ret_i HF.out.symm, Below.call HB0.out HB2.out⟩
  ·obtain rfl := B2.out hz h1
   clear B1 B2 B3 B4 B5 B6 hz
   by_cases a1 : arms < 1
   ·clear h1
    go_enter Tryd.func62, Tryd.ntmps62
    go_wp2_with fail
    rw [← hw0]
    clear hw0
    refine HK.out.mono ?_
    rintro e w' ⟨rfl, d, rfl⟩
    go_wp2
    go_ret
    exact ⟨rfl, below_drewN HB0.out _⟩
   ·have a2 : 8 < arms := by omega
    clear h1
    go_enter Tryd.func62, Tryd.ntmps62
    go_wp2_with fail
    rw [← hw0]
    clear hw0
    refine HK.out.mono ?_
    rintro e w' ⟨rfl, d, rfl⟩
    go_wp2
    go_ret
    exact ⟨rfl, below_drewN HB0.out _⟩
 ·obtain rfl := B1.out hz
  have hz' : (chkE bl != 0) = true := by rw [bne_iff_ne]; exact hz
  clear B1 B2 B3 B4 B5 B6 hz
  generalize chkE bl = c at *
  go_enter Tryd.func62, Tryd.ntmps62
  go_wp2_with fail
  rw [← hw0]
  clear hw0
  refine HK.out.mono ?_
  rintro e w' ⟨rfl, d, rfl⟩
  go_wp2
  go_ret
  exact ⟨rfl, below_drewN HB0.out _⟩
end Go.Proofs.YtmecohdedghiaaaDoor
namespace Go.Proofs.YtmecohdedghiaaaDoor
/-- The parts of a unit (its kind, its number, its rows, its columns). -/
def unitF (u : Q4) (i : Nat) : Q4 := ⟨u.a, u.b, ((i / u.d.toNat : Nat) : Int), ((i % u.d.toNat : Nat) : Int)⟩
def unitN (u : Q4) : Nat := u.c.toNat * u.d.toNat
def unitParts (u : Q4) : List Q4 := (List.range (unitN u)).map (unitF u)
noncomputable def plateU (l : List Pl) (i : Nat) : Q4 := ⟨1, i, (l.getD i KP.dflt).rows, (l.getD i KP.dflt).cols⟩
noncomputable def rackU (l : List Rk) (i : Nat) : Q4 := ⟨2, i, (l.getD i KR.dflt).rows, (l.getD i KR.dflt).cols⟩
def laneU (i : Nat) : Q4 := ⟨3, i, 1, 1⟩
noncomputable def unitsL (d : Dk) : List Q4 := (List.range d.pl.length).map (plateU d.pl) ++ (List.range d.rl.length).map (rackU d.rl) ++ (List.range (d.bl.length - 1)).map laneU
def partsU (us : List Q4) : List Q4 := us.flatMap unitParts
noncomputable def partsL (d : Dk) : List Q4 := partsU (unitsL d)
/-- A unit as it may be. -/
def okU (u : Q4) : Prop := (u.a = 1 ∨ u.a = 2 ∨ u.a = 3) ∧ 0 ≤ u.b ∧ u.b ≤ 23 ∧ sizeB u.c u.d = true
theorem okU_pos {u : Q4} (h : okU u) : 1 ≤ u.c.toNat ∧ 1 ≤ u.d.toNat ∧ u.c = (u.c.toNat : Int) ∧ u.d = (u.d.toNat : Int) ∧ u.c * u.d = (unitN u : Int) ∧ 1 ≤ unitN u ∧ unitN u ≤ 1536 := by
 obtain ⟨h1, h2, h3, h4⟩ := size_of h.2.2.2
 obtain ⟨m1, m2⟩ := size_mul h.2.2.2
 have e1 : u.c = (u.c.toNat : Int) := by omega
 have e2 : u.d = (u.d.toNat : Int) := by omega
 have e3 : u.c * u.d = (unitN u : Int) := by
  unfold unitN
  rw [Int.natCast_mul, ← e1, ← e2]
 refine ⟨by omega, by omega, e1, e2, e3, by omega, by omega⟩
theorem unitParts_len (u : Q4) : (unitParts u).length = unitN u := by unfold unitParts; simp
theorem partsU_cons (u : Q4) (us : List Q4) : partsU (u :: us) = unitParts u ++ partsU us := rfl
/-- The part of an id, unit by unit. -/
def partU : List Q4 → Int → Q4 × Int
 | [], _ => (⟨0, 0, 0, 0⟩, 3)
 | u :: us, left => if left < 0 then (⟨0, 0, 0, 0⟩, 3) else if left < u.c * u.d then (⟨u.a, u.b, left / u.d, left % u.d⟩, 0) else partU us (left - u.c * u.d)
/-- The part of an id, in the row of all. -/
def partR (l : List Q4) (id : Int) : Q4 × Int := if id < 0 ∨ (l.length : Int) ≤ id then (⟨0, 0, 0, 0⟩, 3) else (l.getD id.toNat ⟨0, 0, 0, 0⟩, 0)
theorem partU_R (us : List Q4) (h : ∀ u ∈ us, okU u) : ∀ id : Int, partU us id = partR (partsU us) id := by
 induction us with
 | nil =>
  intro id
  unfold partU partR partsU
  rw [if_pos (by simp; omega)]
 | cons u us ih =>
  intro id
  obtain ⟨p1, p2, p3, p4, p5, p6, p7⟩ := okU_pos (h u (by simp))
  rw [partU]
  by_cases h0 : id < 0
  ·rw [if_pos h0]
   unfold partR
   rw [if_pos (.inl h0)]
  rw [if_neg h0, p5, partsU_cons]
  have hl : (unitParts u ++ partsU us).length = unitN u + (partsU us).length := by rw [List.length_append, unitParts_len]
  by_cases h1 : id < (unitN u : Int)
  ·rw [if_pos h1]
   obtain ⟨i, rfl⟩ : ∃ i : Nat, id = (i : Int) := ⟨id.toNat, by omega⟩
   unfold partR
   rw [hl, if_neg (by omega), Int.toNat_natCast, List.getD_eq_getElem?_getD, List.getElem?_append_left (by rw [unitParts_len]; omega)]
   unfold unitParts
   rw [List.getElem?_map, List.getElem?_range (by omega)]
   simp only [Option.map_some, Option.getD_some]
   unfold unitF
   rw [Int.natCast_ediv, Int.natCast_emod, ← p4]
  ·rw [if_neg h1, ih (fun u hu => h u (by simp [hu]))]
   unfold partR
   rw [hl]
   by_cases h2 : ((partsU us).length : Int) ≤ id - unitN u
   ·rw [if_pos (.inr h2), if_pos (.inr (by omega))]
   ·rw [if_neg (by omega), if_neg (by omega)]
    congr 1
    rw [List.getD_eq_getElem?_getD, List.getD_eq_getElem?_getD, List.getElem?_append_right (by rw [unitParts_len]; omega), unitParts_len]
    congr 2
    omega
/-- Lies a part on a unit? -/
def hasU (u p : Q4) : Bool := decide (p.a = u.a ∧ p.b = u.b ∧ 0 ≤ p.c ∧ p.c < u.c ∧ 0 ≤ p.d ∧ p.d < u.d)
/-- A part's id, unit by unit. -/
def idU (p : Q4) : List Q4 → Int → Int × Int
 | [], _ => (0, 3)
 | u :: us, s => if hasU u p = true then (s + p.c * u.d + p.d, 0) else idU p us (s + u.c * u.d)
/-- A part's id, in the row of all. -/
def idR (p : Q4) : List Q4 → Int → Int × Int
 | [], _ => (0, 3)
 | x :: xs, s => if x = p then (s, 0) else idR p xs (s + 1)
/-- How many parts of a kind. -/
def cntK (k : Int) (l : List Q4) : Int := ((l.filter fun p => p.a == k).length : Int)
theorem cnt_append (k : Int) (l m : List Q4) : cntK k (l ++ m) = cntK k l + cntK k m := by
 unfold cntK
 rw [List.filter_append, List.length_append, Int.natCast_add]
theorem cnt_unit (k : Int) (u : Q4) : cntK k (unitParts u) = if u.a = k then (unitN u : Int) else 0 := by
 unfold cntK unitParts
 rw [List.filter_map, List.length_map]
 by_cases h : u.a = k
 ·rw [if_pos h, List.filter_eq_self.2 (fun i _ => by simp [unitF, h]), List.length_range]
 ·rw [if_neg h, List.filter_eq_nil_iff.2 (fun i _ => by simp [unitF, h])]
  rfl
end Go.Proofs.YtmecohdedghiaaaDoor
namespace Go.Proofs.YtmecohdedghiaaaDoor
open Go.RowKit
/-- Four numbers' value. -/
abbrev Q4.v (u : Q4) : Value := .agg #[.int .i64 u.a, .int .i64 u.b, .int .i64 u.c, .int .i64 u.d]
set_option maxHeartbeats 1000000 in
theorem parts_any (u : Q4) (hu : okU u) (w : World) : Calls Tryd.prog 77 #[u.v] w fun e w' => e = .returned (.int .i64 (u.c * u.d)) ∧ Below w.heap.size w w' := by
 obtain ⟨m1, m2⟩ := size_mul hu.2.2.2
 clear hu
 go_enter Tryd.func77, Tryd.ntmps77
 go_wp2
 go_ret
 exact ⟨ret_i (by first | rfl | omega), Below.al (Below.refl _ _) _⟩
end Go.Proofs.YtmecohdedghiaaaDoor
