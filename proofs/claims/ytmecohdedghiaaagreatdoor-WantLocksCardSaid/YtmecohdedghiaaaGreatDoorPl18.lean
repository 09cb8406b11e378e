/- What the cards of this seat share: the table out of a row; a request that came in; a world for the witness. -/
import Derived.Test.YtmecohdedghiaaaGreatDoorPl17
import Derived.Test.YtmecohdedghiaaaGreatDoorPl02
import Derived.Test.YtmecohdedghiaaaGreatDoorPl11
import Derived.OpenVars
import Derived.Test.YtmecohdedghiaaaGreatDoorPl13
import Derived.Test.YtmecohdedghiaaaGreatDoorCards
import Derived.Test.YtmecohdedghiaaaGreatDoorTie
import Derived.ProofKit
import Derived.OpenShut
import Derived.Deep.DeepHandedRow
import Derived.Lib.LaidTab
namespace Go.Proofs.YtmecohdedghiaaaGreatDoor
open Go.ChangeShapes Go.WideShapes Go.ChangeAt Go.RowKit Go.Deep
set_option maxRecDepth 100000 in
theorem celi3 : Tryz.prog.cellsOf 3 = 1 := by kernel_rfl
set_option maxRecDepth 100000 in
theorem ints_reads : Tryz.prog.readableRec 27 = true := by kernel_rfl
set_option maxRecDepth 100000 in
theorem ints_row : 27 < Tryz.prog.types.size := of_decide_eq_true (by kernel_rfl)
set_option maxRecDepth 100000 in
/-- A struct's fields that came in, each read by itself. -/
theorem fieldz {H : Type} {enc : TypeId × Value → H} {w : World} {fuel : Nat} {t : TypeId} {fs : Array Field} {cs : List Value} {x : DataW H × List MemPlace} (ht : Tryz.prog.underlying t = some (.struct fs)) (h : DataW.trod enc Tryz.prog w 0 (fun _ => true) true fuel t cs = some x) :
    cs.length = Tryz.prog.cellsOf t ∧ ∃ n, ∀ (i : Nat) (f : Field), fs[i]? = some f → ∃ y, DataW.trod enc Tryz.prog w 0 (fun _ => true) true n f.type ((cs.drop f.offset).take (Tryz.prog.cellsOf f.type)) = some y := by
  obtain ⟨xs, n, _, _, hl, hlen, hf⟩ := DataW.trod_struct ht h
  refine ⟨hl, n, fun i f hi => ?_⟩
  have hi' : i < xs.length := by
    rw [hlen]
    exact (Array.getElem?_eq_some_iff.1 hi).1
  exact ⟨xs[i], by rw [hf i f hi, List.getElem?_eq_getElem hi']⟩
set_option maxRecDepth 100000 in
theorem one_int' {H : Type} {enc : TypeId × Value → H} {w : World} {n : Nat} {c : Value} (h : ∃ y, DataW.trod enc Tryz.prog w 0 (fun _ => true) true n 3 [c] = some y) : ∃ k, c = .int .i64 k ∧ fits k := by
  obtain ⟨y, hy⟩ := h
  obtain ⟨k, e, _, hw⟩ := DataW.trod_int Tryz.underlying3 hy
  simp only [List.cons.injEq, and_true] at e
  exact ⟨k, e, int_fits hw⟩
set_option maxRecDepth 100000 in
/-- A list of whole numbers that came in. -/
theorem open_ints' {H : Type} {enc : TypeId × Value → H} {w : World} {v : Value} {d : DataW H} {ps : List MemPlace} (hv : ∃ a len cap, v = .slice a len cap) (h : DataW.Trod enc Tryz.prog w 0 (fun _ => true) true 27 v d ps) : ∃ xs, KI.IsL w w.heap.size v xs := by
  obtain ⟨a0, len0, cap0, rfl⟩ := hv
  obtain ⟨fuel, hf⟩ := h
  have hf' : DataW.trod enc Tryz.prog w 0 (fun _ => true) true fuel 27 [Value.slice a0 len0 cap0] = some (d, ps) := by simpa [Value.cells] using hf
  obtain ⟨v, xs, h1, h2, _⟩ := Lk.opened (K := KI) (fun _ => True) celi3 (fun fuel cs x h => by
    obtain ⟨k, e, _, hw⟩ := DataW.trod_int Tryz.underlying3 h
    exact ⟨k, e, int_fits hw, trivial⟩) hf'
  simp only [List.cons.injEq, and_true] at h1
  subst h1
  exact ⟨xs, h2⟩
set_option maxRecDepth 100000 in
theorem cells28 : Tryz.prog.cellsOf 84 = 1 := by kernel_rfl
set_option maxRecDepth 100000 in
/-- A list of floats that came in. -/
theorem open_floats {H : Type} {enc : TypeId × Value → H} {w : World} {fuel : Nat} {cs : List Value} {x : DataW H × List MemPlace} (h : DataW.trod enc Tryz.prog w 0 (fun _ => true) true fuel 22 cs = some x) : ∃ v xs, cs = [v] ∧ KF.IsL w w.heap.size v xs := by
  obtain ⟨v, xs, h1, h2, _⟩ := Lk.opened (K := KF) (fun _ => True) cells28 (fun fuel cs x h => by
    obtain ⟨n, rfl, hw⟩ := trod_float Tryz.underlying84 h
    exact ⟨n, rfl, fl_fits hw, trivial⟩) h
  exact ⟨v, xs, h1, h2⟩
set_option maxRecDepth 100000 in
theorem cells3 : Tryz.prog.cellsOf 3 = 1 := by kernel_rfl
set_option maxRecDepth 100000 in
theorem cells61 : Tryz.prog.cellsOf 27 = 1 := by kernel_rfl
set_option maxRecDepth 100000 in
theorem cells22 : Tryz.prog.cellsOf 22 = 1 := by kernel_rfl
set_option maxRecDepth 100000 in
theorem cells41 : Tryz.prog.cellsOf 23 = 1 := by kernel_rfl
set_option maxRecDepth 100000 in
theorem cells42 : Tryz.prog.cellsOf 24 = 1 := by kernel_rfl
set_option maxRecDepth 100000 in
theorem cells44 : Tryz.prog.cellsOf 26 = 4 := by kernel_rfl
set_option maxRecDepth 100000 in
theorem cells63 : Tryz.prog.cellsOf 86 = 7 := by kernel_rfl
set_option maxRecDepth 100000 in
theorem cells72 : Tryz.prog.cellsOf 118 = 5 := by kernel_rfl
set_option maxRecDepth 100000 in
theorem deck_reads : Tryz.prog.readableRec 26 = true := by kernel_rfl
set_option maxRecDepth 100000 in
theorem deck_row : 26 < Tryz.prog.types.size := of_decide_eq_true (by kernel_rfl)
set_option maxRecDepth 100000 in
theorem one_float {H : Type} {enc : TypeId × Value → H} {w : World} {n : Nat} {c : Value} (h : ∃ y, DataW.trod enc Tryz.prog w 0 (fun _ => true) true n 84 [c] = some y) : ∃ k, c = .float .f64 k ∧ k < 18446744073709551616 := by
  obtain ⟨y, hy⟩ := h
  obtain ⟨k, e, hw⟩ := trod_float Tryz.underlying84 hy
  simp only [List.cons.injEq, and_true] at e
  exact ⟨k, e, fl_fits hw⟩
set_option maxRecDepth 100000 in
theorem one_ints {H : Type} {enc : TypeId × Value → H} {w : World} {n : Nat} {c : Value} (h : ∃ y, DataW.trod enc Tryz.prog w 0 (fun _ => true) true n 27 [c] = some y) : ∃ xs, KI.IsL w w.heap.size c xs := by
  obtain ⟨y, hy⟩ := h
  obtain ⟨v, xs, h1, h2, _⟩ := Lk.opened (K := KI) (fun _ => True) cells3 (fun fuel cs x h => by
    obtain ⟨k, e, _, hw⟩ := DataW.trod_int Tryz.underlying3 h
    exact ⟨k, e, int_fits hw, trivial⟩) hy
  simp only [List.cons.injEq, and_true] at h1
  subst h1
  exact ⟨xs, h2⟩
set_option maxRecDepth 100000 in
theorem open_plate {H : Type} {enc : TypeId × Value → H} {w : World} {fuel : Nat} {cs : List Value} {x : DataW H × List MemPlace} (h : DataW.trod enc Tryz.prog w 0 (fun _ => true) true fuel 86 cs = some x) :
    ∃ q : Pl, cs = KP.cells q ∧ KP.ok q ∧ KI.IsL w w.heap.size (.slice q.sA q.sn q.sc) q.st := by
  obtain ⟨hl, n, hf⟩ := fieldz Tryz.underlying86 h
  rw [cells63] at hl
  match cs, hl with
  | [c0, c1, c2, c3, c4, c5, c6], _ =>
    have g0 := hf 0 { name := "Rows", type := 3, offset := 0, embedded := false, tag := "", pkgPath := "", byteOffset := 0 } rfl
    have g1 := hf 1 { name := "Cols", type := 3, offset := 1, embedded := false, tag := "", pkgPath := "", byteOffset := 8 } rfl
    have g2 := hf 2 { name := "X", type := 84, offset := 2, embedded := false, tag := "", pkgPath := "", byteOffset := 16 } rfl
    have g3 := hf 3 { name := "Pitch", type := 84, offset := 3, embedded := false, tag := "", pkgPath := "", byteOffset := 24 } rfl
    have g4 := hf 4 { name := "Reach", type := 84, offset := 4, embedded := false, tag := "", pkgPath := "", byteOffset := 32 } rfl
    have g5 := hf 5 { name := "Cap", type := 3, offset := 5, embedded := false, tag := "", pkgPath := "", byteOffset := 40 } rfl
    have g6 := hf 6 { name := "Start", type := 27, offset := 6, embedded := false, tag := "", pkgPath := "", byteOffset := 48 } rfl
    simp only [cells3, cells28, cells61, List.drop_zero, List.drop_succ_cons, List.take_succ_cons, List.take_zero] at g0 g1 g2 g3 g4 g5 g6
    obtain ⟨k0, rfl, f0⟩ := one_int' g0
    obtain ⟨k1, rfl, f1⟩ := one_int' g1
    obtain ⟨k2, rfl, f2⟩ := one_float g2
    obtain ⟨k3, rfl, f3⟩ := one_float g3
    obtain ⟨k4, rfl, f4⟩ := one_float g4
    obtain ⟨k5, rfl, f5⟩ := one_int' g5
    obtain ⟨xs, hx⟩ := one_ints g6
    obtain ⟨A, cap, hv, _, _⟩ := hx.1
    subst hv
    exact ⟨⟨k0, k1, k2, k3, k4, k5, A, xs.length, cap, xs⟩, rfl, ⟨f0, f1, f2, f3, f4, f5⟩, hx⟩
set_option maxRecDepth 100000 in
theorem open_rack {H : Type} {enc : TypeId × Value → H} {w : World} {fuel : Nat} {cs : List Value} {x : DataW H × List MemPlace} (h : DataW.trod enc Tryz.prog w 0 (fun _ => true) true fuel 118 cs = some x) :
    ∃ q : Rk, cs = KR.cells q ∧ KR.ok q ∧ True := by
  obtain ⟨hl, n, hf⟩ := fieldz Tryz.underlying118 h
  rw [cells72] at hl
  match cs, hl with
  | [c0, c1, c2, c3, c4], _ =>
    have g0 := hf 0 { name := "Rows", type := 3, offset := 0, embedded := false, tag := "", pkgPath := "", byteOffset := 0 } rfl
    have g1 := hf 1 { name := "Cols", type := 3, offset := 1, embedded := false, tag := "", pkgPath := "", byteOffset := 8 } rfl
    have g2 := hf 2 { name := "X", type := 84, offset := 2, embedded := false, tag := "", pkgPath := "", byteOffset := 16 } rfl
    have g3 := hf 3 { name := "Pitch", type := 84, offset := 3, embedded := false, tag := "", pkgPath := "", byteOffset := 24 } rfl
    have g4 := hf 4 { name := "Reach", type := 84, offset := 4, embedded := false, tag := "", pkgPath := "", byteOffset := 32 } rfl
    simp only [cells3, cells28, List.drop_zero, List.drop_succ_cons, List.take_succ_cons, List.take_zero] at g0 g1 g2 g3 g4
    obtain ⟨k0, rfl, f0⟩ := one_int' g0
    obtain ⟨k1, rfl, f1⟩ := one_int' g1
    obtain ⟨k2, rfl, f2⟩ := one_float g2
    obtain ⟨k3, rfl, f3⟩ := one_float g3
    obtain ⟨k4, rfl, f4⟩ := one_float g4
    exact ⟨⟨k0, k1, k2, k3, k4⟩, rfl, ⟨f0, f1, f2, f3, f4⟩, trivial⟩
set_option maxRecDepth 100000 in
/-- A deck that came in. -/
theorem open_deck {H : Type} {enc : TypeId × Value → H} {W w : World} {r : Reach} {base : Nat} {v : Value} {d : DataW H} {ps : List MemPlace} (hv : Value.okWide Tryz.prog W r base 26 v) (h : DataW.Trod enc Tryz.prog w 0 (fun _ => true) true 26 v d ps) : ∃ D : Dk, v = D.v ∧ D.In w w.heap.size := by
  obtain ⟨ca, rfl, hca⟩ := okWide_struct Tryz.underlying26 hv
  obtain ⟨fuel, hf0⟩ := h
  obtain ⟨hl, n, hf⟩ := fieldz Tryz.underlying26 hf0
  have hcs : (Value.agg ca).cells = ca := by simp [Value.cells]
  rw [hcs] at hl hf
  rw [cells44] at hl
  match ca, hl with
  | ⟨[c0, c1, c2, c3]⟩, _ =>
    have g0 := hf 0 { name := "Borders", type := 22, offset := 0, embedded := false, tag := "", pkgPath := "", byteOffset := 0 } rfl
    have g1 := hf 1 { name := "Plates", type := 23, offset := 1, embedded := false, tag := "", pkgPath := "", byteOffset := 24 } rfl
    have g2 := hf 2 { name := "Racks", type := 24, offset := 2, embedded := false, tag := "", pkgPath := "", byteOffset := 48 } rfl
    have g3 := hf 3 { name := "Arms", type := 3, offset := 3, embedded := false, tag := "", pkgPath := "", byteOffset := 72 } rfl
    simp only [cells3, cells22, cells41, cells42, List.drop_zero, List.drop_succ_cons, List.take_succ_cons, List.take_zero] at g0 g1 g2 g3
    obtain ⟨k3, rfl, f3⟩ := one_int' g3
    obtain ⟨y0, e0⟩ := g0
    obtain ⟨y1, e1⟩ := g1
    obtain ⟨y2, e2⟩ := g2
    obtain ⟨v0, bl, a0, b0⟩ := open_floats e0
    obtain ⟨v1, pl, a1, b1, q1⟩ := Lk.opened (K := KP) (fun q => KI.IsL w w.heap.size (.slice q.sA q.sn q.sc) q.st) cells63 (fun fuel cs x h => open_plate h) e1
    obtain ⟨v2, rl, a2, b2, _⟩ := Lk.opened (K := KR) (fun _ => True) cells72 (fun fuel cs x h => open_rack h) e2
    have z0 : c0 = v0 := by simpa using a0
    have z1 : c1 = v1 := by simpa using a1
    have z2 : c2 = v2 := by simpa using a2
    subst z0 z1 z2
    obtain ⟨A0, m0, h0, _, _⟩ := b0.1
    obtain ⟨A1, m1, h1, _, _⟩ := b1.1
    obtain ⟨A2, m2, h2, _, _⟩ := b2.1
    subst h0 h1 h2
    exact ⟨⟨A0, bl.length, m0, bl, A1, pl.length, m1, pl, A2, rl.length, m2, rl, k3⟩, rfl, ⟨b0, b1, b2, q1, f3⟩⟩
end Go.Proofs.YtmecohdedghiaaaGreatDoor
namespace Go.Proofs.YtmecohdedghiaaaGreatDoor
open Go.ChangeShapes Go.WideShapes Go.ChangeAt Go.RowKit Go.Deep
set_option maxRecDepth 100000 in
theorem gTab : Tryz.prog.globalNamed "math/bits.deBruijn64tab" = some 1 := by kernel_rfl
set_option maxRecDepth 100000 in
theorem gTabType : (Tryz.prog.globals[1]?).map (·.type) = some 254 := by kernel_rfl
set_option maxRecDepth 100000 in
theorem cellsTab : Tryz.prog.cellsOf 254 = 64 := by kernel_rfl
set_option maxRecDepth 100000 in
theorem cellsU8 : Tryz.prog.cellsOf 5 = 1 := by kernel_rfl
/-- The list of every row of this seat. -/
def tabList : List (String × DataW Unit) := [("math/bits.deBruijn64tab", Rows.laid_math_bits_deBruijn64tab)]
theorem table {W : World} (h : laidMetH Tryz.prog tabList W) : Lib.TabIs Tryz.prog W "math/bits.deBruijn64tab" .u8 (Lib.deBruijn64tab.map Int.ofNat) :=
  Lib.tabIs_of_head (rest := []) gTab gTabType Tryz.underlying254 Tryz.underlying5 cellsU8 cellsTab h
theorem tab {W : World} (h : laidMetH Tryz.prog tabList W) : Nn.Tab W := fun j hj => by
  have hl : Lib.deBruijn64tab.length = 64 := rfl
  have e := (table h).cell gTab j (by rw [List.length_map, hl]; exact hj)
  rw [e, List.getD_eq_getElem?_getD, List.getElem?_map, List.getD_eq_getElem?_getD]
  rw [List.getElem?_eq_getElem (by rw [hl]; exact hj)]
  rfl
/-- A world for the witness: the settled one, the table holding what its initialiser lays. -/
noncomputable def laidWorld (os : Os) : World :=
  { World.holding Tryz.prog os ⟨#[], #[], []⟩ with heap := (World.holding Tryz.prog os ⟨#[], #[], []⟩).heap.modify 1 fun
      | .cells _ t frozen => .cells (Lib.deBruijn64tab.map fun n => Value.int .u8 (Int.ofNat n)).toArray t frozen
      | o => o }
set_option maxRecDepth 100000 in
theorem req_reads : Tryz.prog.readableRec 30 = true := by kernel_rfl
set_option maxRecDepth 100000 in
theorem req_row : 30 < Tryz.prog.types.size := of_decide_eq_true (by kernel_rfl)
set_option maxRecDepth 100000 in
theorem cellsRq : Tryz.prog.cellsOf 30 = 6 := by kernel_rfl
set_option maxRecDepth 100000 in
theorem cellsU64 : Tryz.prog.cellsOf 28 = 1 := by kernel_rfl
set_option maxRecDepth 100000 in
theorem one_u64 {H : Type} {enc : TypeId × Value → H} {w : World} {n : Nat} {c : Value} (h : ∃ y, DataW.trod enc Tryz.prog w 0 (fun _ => true) true n 28 [c] = some y) : ∃ k : Nat, c = .int .u64 k ∧ k < 18446744073709551616 := by
  obtain ⟨y, hy⟩ := h
  obtain ⟨k, e, _, hw⟩ := DataW.trod_int Tryz.underlying28 hy
  simp only [List.cons.injEq, and_true] at e
  have hk : 0 ≤ k ∧ k ≤ 18446744073709551615 := by simpa [Lit.wf, IntKind.min, IntKind.max, IntKind.signed, IntKind.bits] using hw
  refine ⟨k.toNat, ?_, by omega⟩
  rw [e, Int.toNat_of_nonneg hk.1]
set_option maxRecDepth 100000 in
/-- A request that came in. -/
theorem open_req {H : Type} {enc : TypeId × Value → H} {W w : World} {r : Reach} {base : Nat} {v : Value} {d : DataW H} {ps : List MemPlace} (hv : Value.okWide Tryz.prog W r base 30 v) (h : DataW.Trod enc Tryz.prog w 0 (fun _ => true) true 30 v d ps) : ∃ R : Rq, v = R.val ∧ R.In w w.heap.size := by
  obtain ⟨ca, rfl, hca⟩ := okWide_struct Tryz.underlying30 hv
  obtain ⟨fuel, hf0⟩ := h
  obtain ⟨hl, n, hf⟩ := fieldz Tryz.underlying30 hf0
  have hcs : (Value.agg ca).cells = ca := by simp [Value.cells]
  rw [hcs] at hl hf
  rw [cellsRq] at hl
  match ca, hl with
  | ⟨[c0, c1, c2, c3, c4, c5]⟩, _ =>
    have g0 := hf 0 { name := "Kind", type := 3, offset := 0, embedded := false, tag := "", pkgPath := "", byteOffset := 0 } rfl
    have g1 := hf 1 { name := "Ids", type := 27, offset := 1, embedded := false, tag := "", pkgPath := "", byteOffset := 8 } rfl
    have g2 := hf 2 { name := "A", type := 3, offset := 2, embedded := false, tag := "", pkgPath := "", byteOffset := 32 } rfl
    have g3 := hf 3 { name := "B", type := 3, offset := 3, embedded := false, tag := "", pkgPath := "", byteOffset := 40 } rfl
    have g4 := hf 4 { name := "Ver", type := 3, offset := 4, embedded := false, tag := "", pkgPath := "", byteOffset := 48 } rfl
    have g5 := hf 5 { name := "Vol", type := 28, offset := 5, embedded := false, tag := "", pkgPath := "", byteOffset := 56 } rfl
    simp only [cells3, cells61, cellsU64, List.drop_zero, List.drop_succ_cons, List.take_succ_cons, List.take_zero] at g0 g1 g2 g3 g4 g5
    obtain ⟨k0, rfl, f0⟩ := one_int' g0
    obtain ⟨xs, hx⟩ := one_ints g1
    obtain ⟨k2, rfl, f2⟩ := one_int' g2
    obtain ⟨k3, rfl, f3⟩ := one_int' g3
    obtain ⟨k4, rfl, f4⟩ := one_int' g4
    obtain ⟨k5, rfl, f5⟩ := one_u64 g5
    obtain ⟨A, c, rfl, _⟩ := hx.shape
    exact ⟨⟨k0, A, c, xs, k2, k3, k4, k5⟩, rfl, ⟨hx, f0, f2, f3, f4, f5⟩⟩
end Go.Proofs.YtmecohdedghiaaaGreatDoor
