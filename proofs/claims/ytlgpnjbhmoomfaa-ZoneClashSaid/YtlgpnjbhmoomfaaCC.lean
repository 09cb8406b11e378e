/- How a deck and a part that came in are opened. -/
import Derived.Test.YtlgpnjbhmoomfaaCB
import Derived.Test.YtlgpnjbhmoomfaaDG
import Derived.OpenVars
namespace Go.Proofs.Ytlgpnjbhmoomfaa
open Go.ChangeShapes Go.WideShapes Go.ChangeAt Go.RowKit Go.Deep

theorem cells3 : Try.prog.cellsOf 3 = 1 := by kernel_rfl
theorem cells61 : Try.prog.cellsOf 51 = 1 := by kernel_rfl
theorem cells22 : Try.prog.cellsOf 22 = 1 := by kernel_rfl
theorem cells41 : Try.prog.cellsOf 23 = 1 := by kernel_rfl
theorem cells42 : Try.prog.cellsOf 24 = 1 := by kernel_rfl
theorem cells44 : Try.prog.cellsOf 26 = 4 := by kernel_rfl
theorem cells50 : Try.prog.cellsOf 38 = 4 := by kernel_rfl
theorem cells63 : Try.prog.cellsOf 75 = 7 := by kernel_rfl
theorem cells72 : Try.prog.cellsOf 79 = 5 := by kernel_rfl
theorem deck_reads : Try.prog.readableRec 26 = true := by kernel_rfl
theorem deck_row : 26 < Try.prog.types.size := of_decide_eq_true (by kernel_rfl)
theorem part_reads : Try.prog.readableRec 38 = true := by kernel_rfl
theorem part_row : 38 < Try.prog.types.size := of_decide_eq_true (by kernel_rfl)
/-- A struct's fields that came in, each read by itself. -/
theorem fields {H : Type} {enc : TypeId × Value → H} {w : World} {fuel : Nat} {t : TypeId} {fs : Array Field} {cs : List Value} {x : DataW H × List MemPlace} (ht : Try.prog.underlying t = some (.struct fs)) (h : DataW.trod enc Try.prog w 0 (fun _ => true) true fuel t cs = some x) :
    cs.length = Try.prog.cellsOf t ∧ ∃ n, ∀ (i : Nat) (f : Field), fs[i]? = some f → ∃ y, DataW.trod enc Try.prog w 0 (fun _ => true) true n f.type ((cs.drop f.offset).take (Try.prog.cellsOf f.type)) = some y := by
  obtain ⟨xs, n, _, _, hl, hlen, hf⟩ := DataW.trod_struct ht h
  refine ⟨hl, n, fun i f hi => ?_⟩
  have hi' : i < xs.length := by
    rw [hlen]
    exact (Array.getElem?_eq_some_iff.1 hi).1
  exact ⟨xs[i], by rw [hf i f hi, List.getElem?_eq_getElem hi']⟩
theorem one_int {H : Type} {enc : TypeId × Value → H} {w : World} {n : Nat} {c : Value} (h : ∃ y, DataW.trod enc Try.prog w 0 (fun _ => true) true n 3 [c] = some y) : ∃ k, c = .int .i64 k ∧ fits k := by
  obtain ⟨y, hy⟩ := h
  obtain ⟨k, e, _, hw⟩ := DataW.trod_int Try.underlying3 hy
  simp only [List.cons.injEq, and_true] at e
  exact ⟨k, e, int_fits hw⟩
theorem one_float {H : Type} {enc : TypeId × Value → H} {w : World} {n : Nat} {c : Value} (h : ∃ y, DataW.trod enc Try.prog w 0 (fun _ => true) true n 34 [c] = some y) : ∃ k, c = .float .f64 k ∧ k < 18446744073709551616 := by
  obtain ⟨y, hy⟩ := h
  obtain ⟨k, e, hw⟩ := trod_float Try.underlying34 hy
  simp only [List.cons.injEq, and_true] at e
  exact ⟨k, e, fl_fits hw⟩
theorem one_ints {H : Type} {enc : TypeId × Value → H} {w : World} {n : Nat} {c : Value} (h : ∃ y, DataW.trod enc Try.prog w 0 (fun _ => true) true n 51 [c] = some y) : ∃ xs, KI.IsL w w.heap.size c xs := by
  obtain ⟨y, hy⟩ := h
  obtain ⟨v, xs, h1, h2, _⟩ := Lk.opened (K := KI) (fun _ => True) cells3 (fun fuel cs x h => by
    obtain ⟨k, e, _, hw⟩ := DataW.trod_int Try.underlying3 h
    exact ⟨k, e, int_fits hw, trivial⟩) hy
  simp only [List.cons.injEq, and_true] at h1
  subst h1
  exact ⟨xs, h2⟩
set_option maxRecDepth 100000 in
theorem open_plate {H : Type} {enc : TypeId × Value → H} {w : World} {fuel : Nat} {cs : List Value} {x : DataW H × List MemPlace} (h : DataW.trod enc Try.prog w 0 (fun _ => true) true fuel 75 cs = some x) :
    ∃ q : Pl, cs = KP.cells q ∧ KP.ok q ∧ KI.IsL w w.heap.size (.slice q.sA q.sn q.sc) q.st := by
  obtain ⟨hl, n, hf⟩ := fields Try.underlying75 h
  rw [cells63] at hl
  match cs, hl with
  | [c0, c1, c2, c3, c4, c5, c6], _ =>
    have g0 := hf 0 { name := "Rows", type := 3, offset := 0, embedded := false, tag := "", pkgPath := "", byteOffset := 0 } rfl
    have g1 := hf 1 { name := "Cols", type := 3, offset := 1, embedded := false, tag := "", pkgPath := "", byteOffset := 8 } rfl
    have g2 := hf 2 { name := "X", type := 34, offset := 2, embedded := false, tag := "", pkgPath := "", byteOffset := 16 } rfl
    have g3 := hf 3 { name := "Pitch", type := 34, offset := 3, embedded := false, tag := "", pkgPath := "", byteOffset := 24 } rfl
    have g4 := hf 4 { name := "Reach", type := 34, offset := 4, embedded := false, tag := "", pkgPath := "", byteOffset := 32 } rfl
    have g5 := hf 5 { name := "Cap", type := 3, offset := 5, embedded := false, tag := "", pkgPath := "", byteOffset := 40 } rfl
    have g6 := hf 6 { name := "Start", type := 51, offset := 6, embedded := false, tag := "", pkgPath := "", byteOffset := 48 } rfl
    simp only [cells3, cells28, cells61, List.drop_zero, List.drop_succ_cons, List.take_succ_cons, List.take_zero] at g0 g1 g2 g3 g4 g5 g6
    obtain ⟨k0, rfl, f0⟩ := one_int g0
    obtain ⟨k1, rfl, f1⟩ := one_int g1
    obtain ⟨k2, rfl, f2⟩ := one_float g2
    obtain ⟨k3, rfl, f3⟩ := one_float g3
    obtain ⟨k4, rfl, f4⟩ := one_float g4
    obtain ⟨k5, rfl, f5⟩ := one_int g5
    obtain ⟨xs, hx⟩ := one_ints g6
    obtain ⟨A, cap, hv, _, _⟩ := hx.1
    subst hv
    exact ⟨⟨k0, k1, k2, k3, k4, k5, A, xs.length, cap, xs⟩, rfl, ⟨f0, f1, f2, f3, f4, f5⟩, hx⟩
set_option maxRecDepth 100000 in
theorem open_rack {H : Type} {enc : TypeId × Value → H} {w : World} {fuel : Nat} {cs : List Value} {x : DataW H × List MemPlace} (h : DataW.trod enc Try.prog w 0 (fun _ => true) true fuel 79 cs = some x) :
    ∃ q : Rk, cs = KR.cells q ∧ KR.ok q ∧ True := by
  obtain ⟨hl, n, hf⟩ := fields Try.underlying79 h
  rw [cells72] at hl
  match cs, hl with
  | [c0, c1, c2, c3, c4], _ =>
    have g0 := hf 0 { name := "Rows", type := 3, offset := 0, embedded := false, tag := "", pkgPath := "", byteOffset := 0 } rfl
    have g1 := hf 1 { name := "Cols", type := 3, offset := 1, embedded := false, tag := "", pkgPath := "", byteOffset := 8 } rfl
    have g2 := hf 2 { name := "X", type := 34, offset := 2, embedded := false, tag := "", pkgPath := "", byteOffset := 16 } rfl
    have g3 := hf 3 { name := "Pitch", type := 34, offset := 3, embedded := false, tag := "", pkgPath := "", byteOffset := 24 } rfl
    have g4 := hf 4 { name := "Reach", type := 34, offset := 4, embedded := false, tag := "", pkgPath := "", byteOffset := 32 } rfl
    simp only [cells3, cells28, List.drop_zero, List.drop_succ_cons, List.take_succ_cons, List.take_zero] at g0 g1 g2 g3 g4
    obtain ⟨k0, rfl, f0⟩ := one_int g0
    obtain ⟨k1, rfl, f1⟩ := one_int g1
    obtain ⟨k2, rfl, f2⟩ := one_float g2
    obtain ⟨k3, rfl, f3⟩ := one_float g3
    obtain ⟨k4, rfl, f4⟩ := one_float g4
    exact ⟨⟨k0, k1, k2, k3, k4⟩, rfl, ⟨f0, f1, f2, f3, f4⟩, trivial⟩
set_option maxRecDepth 100000 in
/-- A deck that came in. -/
theorem open_deck {H : Type} {enc : TypeId × Value → H} {W w : World} {r : Reach} {base : Nat} {v : Value} {d : DataW H} {ps : List MemPlace} (hv : Value.okWide Try.prog W r base 26 v) (h : DataW.Trod enc Try.prog w 0 (fun _ => true) true 26 v d ps) : ∃ D : Dk, v = D.v ∧ D.In w w.heap.size := by
  obtain ⟨ca, rfl, hca⟩ := okWide_struct Try.underlying26 hv
  obtain ⟨fuel, hf0⟩ := h
  obtain ⟨hl, n, hf⟩ := fields Try.underlying26 hf0
  have hcs : (Value.agg ca).cells = ca := by simp [Value.cells]
  rw [hcs] at hl hf
  rw [cells44] at hl
  match ca, hl with
  | ⟨[c0, c1, c2, c3]⟩, _ =>
    have g0 := hf 0 { name := "Borders", type := 22, offset := 0, embedded := false, tag := "", pkgPath := "", byteOffset := 0 } rfl
    have g1 := hf 1 { name := "Plates", type := 23, offset := 1, embedded := false, tag := "", pkgPath := "", byteOffset := 24 } rfl
    have g2 := hf 2 { name := "Racks", type := 24, offset := 2, embedded := false, tag := "", pkgPath := "", byteOffset := 48 } rfl
    have g3 := hf 3 { name := "Arms", type := 3, offset := 3, embedded := false, tag := "", pkgPath := "", byteOffset := 72 } rfl
    simp only [cells3, cells22, cells41, cells42, List.drop_zero, List.drop_succ_cons, List.take_succ_cons, List.take_zero] at g0 g1 g2 g3
    obtain ⟨k3, rfl, f3⟩ := one_int g3
    obtain ⟨y0, e0⟩ := g0
    obtain ⟨y1, e1⟩ := g1
    obtain ⟨y2, e2⟩ := g2
    obtain ⟨v0, bl, a0, b0⟩ := open_floats e0
    obtain ⟨v1, pl, a1, b1, q1⟩ := Lk.opened (K := KP) (fun q => KI.IsL w w.heap.size (.slice q.sA q.sn q.sc) q.st) cells63 (fun fuel cs x h => open_plate h) e1
    obtain ⟨v2, rl, a2, b2, _⟩ := Lk.opened (K := KR) (fun _ => True) cells72 (fun fuel cs x h => open_rack h) e2
    have z0 : c0 = v0 := by simpa using a0
    have z1 : c1 = v1 := by simpa using a1
    have z2 : c2 = v2 := by simpa using a2
    subst z0 z1 z2
    obtain ⟨A0, m0, h0, _, _⟩ := b0.1
    obtain ⟨A1, m1, h1, _, _⟩ := b1.1
    obtain ⟨A2, m2, h2, _, _⟩ := b2.1
    subst h0 h1 h2
    exact ⟨⟨A0, bl.length, m0, bl, A1, pl.length, m1, pl, A2, rl.length, m2, rl, k3⟩, rfl, ⟨b0, b1, b2, q1, f3⟩⟩
set_option maxRecDepth 100000 in
/-- A part that came in. -/
theorem open_part {H : Type} {enc : TypeId × Value → H} {W w : World} {r : Reach} {base : Nat} {v : Value} {d : DataW H} {ps : List MemPlace} (hv : Value.okWide Try.prog W r base 38 v) (h : DataW.Trod enc Try.prog w 0 (fun _ => true) true 38 v d ps) : ∃ p : Q4, v = p.v := by
  obtain ⟨ca, rfl, hca⟩ := okWide_struct Try.underlying38 hv
  obtain ⟨fuel, hf0⟩ := h
  obtain ⟨hl, n, hf⟩ := fields Try.underlying38 hf0
  have hcs : (Value.agg ca).cells = ca := by simp [Value.cells]
  rw [hcs] at hl hf
  rw [cells50] at hl
  match ca, hl with
  | ⟨[c0, c1, c2, c3]⟩, _ =>
    have g0 := hf 0 { name := "Kind", type := 3, offset := 0, embedded := false, tag := "", pkgPath := "", byteOffset := 0 } rfl
    have g1 := hf 1 { name := "Unit", type := 3, offset := 1, embedded := false, tag := "", pkgPath := "", byteOffset := 8 } rfl
    have g2 := hf 2 { name := "Row", type := 3, offset := 2, embedded := false, tag := "", pkgPath := "", byteOffset := 16 } rfl
    have g3 := hf 3 { name := "Col", type := 3, offset := 3, embedded := false, tag := "", pkgPath := "", byteOffset := 24 } rfl
    simp only [cells3, List.drop_zero, List.drop_succ_cons, List.take_succ_cons, List.take_zero] at g0 g1 g2 g3
    obtain ⟨k0, rfl, f0⟩ := one_int g0
    obtain ⟨k1, rfl, f1⟩ := one_int g1
    obtain ⟨k2, rfl, f2⟩ := one_int g2
    obtain ⟨k3, rfl, f3⟩ := one_int g3
    exact ⟨⟨k0, k1, k2, k3⟩, rfl⟩
theorem vars_rowed : varsRowed Try.prog ["internal/bytealg.MaxLen"] = true := by kernel_rfl
end Go.Proofs.Ytlgpnjbhmoomfaa
