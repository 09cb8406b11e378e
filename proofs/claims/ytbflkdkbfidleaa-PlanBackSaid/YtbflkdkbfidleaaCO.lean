/- How lists of whole numbers, of locks and unlocks, and of deeds that came in are opened. -/
import Derived.Test.YtbflkdkbfidleaaCB
import Derived.Test.YtbflkdkbfidleaaUL
import Derived.OpenVars
namespace Go.Proofs.Ytbflkdkbfidleaa
open Go.ChangeShapes Go.WideShapes Go.ChangeAt Go.RowKit Go.Deep
set_option maxRecDepth 100000 in
theorem celi3 : Try.prog.cellsOf 3 = 1 := by kernel_rfl
set_option maxRecDepth 100000 in
theorem ints_reads : Try.prog.readableRec 22 = true := by kernel_rfl
set_option maxRecDepth 100000 in
theorem ints_row : 22 < Try.prog.types.size := of_decide_eq_true (by kernel_rfl)
set_option maxRecDepth 100000 in
/-- A struct's fields that came in, each read by itself. -/
theorem fieldz {H : Type} {enc : TypeId × Value → H} {w : World} {fuel : Nat} {t : TypeId} {fs : Array Field} {cs : List Value} {x : DataW H × List MemPlace} (ht : Try.prog.underlying t = some (.struct fs)) (h : DataW.trod enc Try.prog w 0 (fun _ => true) true fuel t cs = some x) :
    cs.length = Try.prog.cellsOf t ∧ ∃ n, ∀ (i : Nat) (f : Field), fs[i]? = some f → ∃ y, DataW.trod enc Try.prog w 0 (fun _ => true) true n f.type ((cs.drop f.offset).take (Try.prog.cellsOf f.type)) = some y := by
  obtain ⟨xs, n, _, _, hl, hlen, hf⟩ := DataW.trod_struct ht h
  refine ⟨hl, n, fun i f hi => ?_⟩
  have hi' : i < xs.length := by
    rw [hlen]
    exact (Array.getElem?_eq_some_iff.1 hi).1
  exact ⟨xs[i], by rw [hf i f hi, List.getElem?_eq_getElem hi']⟩
set_option maxRecDepth 100000 in
theorem one_int' {H : Type} {enc : TypeId × Value → H} {w : World} {n : Nat} {c : Value} (h : ∃ y, DataW.trod enc Try.prog w 0 (fun _ => true) true n 3 [c] = some y) : ∃ k, c = .int .i64 k ∧ fits k := by
  obtain ⟨y, hy⟩ := h
  obtain ⟨k, e, _, hw⟩ := DataW.trod_int Try.underlying3 hy
  simp only [List.cons.injEq, and_true] at e
  exact ⟨k, e, int_fits hw⟩
set_option maxRecDepth 100000 in
/-- A list of whole numbers that came in. -/
theorem open_ints' {H : Type} {enc : TypeId × Value → H} {w : World} {v : Value} {d : DataW H} {ps : List MemPlace} (hv : ∃ a len cap, v = .slice a len cap) (h : DataW.Trod enc Try.prog w 0 (fun _ => true) true 22 v d ps) : ∃ xs, KI.IsL w w.heap.size v xs := by
  obtain ⟨a0, len0, cap0, rfl⟩ := hv
  obtain ⟨fuel, hf⟩ := h
  have hf' : DataW.trod enc Try.prog w 0 (fun _ => true) true fuel 22 [Value.slice a0 len0 cap0] = some (d, ps) := by simpa [Value.cells] using hf
  obtain ⟨v, xs, h1, h2, _⟩ := Lk.opened (K := KI) (fun _ => True) celi3 (fun fuel cs x h => by
    obtain ⟨k, e, _, hw⟩ := DataW.trod_int Try.underlying3 h
    exact ⟨k, e, int_fits hw, trivial⟩) hf'
  simp only [List.cons.injEq, and_true] at h1
  subst h1
  exact ⟨xs, h2⟩
set_option maxRecDepth 100000 in
theorem one_bool' {H : Type} {enc : TypeId × Value → H} {w : World} {n : Nat} {c : Value} (h : ∃ y, DataW.trod enc Try.prog w 0 (fun _ => true) true n 4 [c] = some y) : ∃ k, c = .bool k := by
  obtain ⟨y, hy⟩ := h
  cases n with
  | zero => simp [DataW.trod] at hy
  | succ n =>
    unfold DataW.trod at hy
    rw [Try.underlying4] at hy
    split at hy <;> simp_all
set_option maxRecDepth 100000 in
theorem celt4 : Try.prog.cellsOf 4 = 1 := by kernel_rfl
set_option maxRecDepth 100000 in
theorem celg : Try.prog.cellsOf 35 = 3 := by kernel_rfl
set_option maxRecDepth 100000 in
theorem celd : Try.prog.cellsOf 48 = 2 := by kernel_rfl
set_option maxRecDepth 100000 in
theorem grips_reads : Try.prog.readableRec 32 = true := by kernel_rfl
set_option maxRecDepth 100000 in
theorem grips_row : 32 < Try.prog.types.size := of_decide_eq_true (by kernel_rfl)
set_option maxRecDepth 100000 in
theorem deeds_reads : Try.prog.readableRec 38 = true := by kernel_rfl
set_option maxRecDepth 100000 in
theorem deeds_row : 38 < Try.prog.types.size := of_decide_eq_true (by kernel_rfl)
set_option maxRecDepth 100000 in
theorem grip_cs {H : Type} {enc : TypeId × Value → H} {w : World} {fuel : Nat} {cs : List Value} {x : DataW H × List MemPlace} (h : DataW.trod enc Try.prog w 0 (fun _ => true) true fuel 35 cs = some x) : ∃ q : Gp, cs = gpCells q ∧ fits q.i ∧ fits q.o := by
  obtain ⟨hl, n, hf⟩ := fieldz Try.underlying35 h
  rw [celg] at hl
  match cs, hl with
  | [c0, c1, c2], _ =>
    have g0 := hf 0 { name := "Free", type := 4, offset := 0, embedded := false, tag := "", pkgPath := "", byteOffset := 0 } rfl
    have g1 := hf 1 { name := "Id", type := 3, offset := 1, embedded := false, tag := "", pkgPath := "", byteOffset := 8 } rfl
    have g2 := hf 2 { name := "Who", type := 3, offset := 2, embedded := false, tag := "", pkgPath := "", byteOffset := 16 } rfl
    simp only [celi3, celt4, List.drop_zero, List.drop_succ_cons, List.take_succ_cons, List.take_zero] at g0 g1 g2
    obtain ⟨k0, rfl⟩ := one_bool' g0
    obtain ⟨k1, rfl, f1⟩ := one_int' g1
    obtain ⟨k2, rfl, f2⟩ := one_int' g2
    exact ⟨⟨k0, k1, k2⟩, rfl, f1, f2⟩
set_option maxRecDepth 100000 in
theorem deed_cs {H : Type} {enc : TypeId × Value → H} {w : World} {fuel : Nat} {cs : List Value} {x : DataW H × List MemPlace} (h : DataW.trod enc Try.prog w 0 (fun _ => true) true fuel 48 cs = some x) : ∃ q : Int × Int, cs = ddCells q ∧ fits q.1 ∧ fits q.2 := by
  obtain ⟨hl, n, hf⟩ := fieldz Try.underlying48 h
  rw [celd] at hl
  match cs, hl with
  | [c0, c1], _ =>
    have g0 := hf 0 { name := "Kind", type := 3, offset := 0, embedded := false, tag := "", pkgPath := "", byteOffset := 0 } rfl
    have g1 := hf 1 { name := "Id", type := 3, offset := 1, embedded := false, tag := "", pkgPath := "", byteOffset := 8 } rfl
    simp only [celi3, List.drop_zero, List.drop_succ_cons, List.take_succ_cons, List.take_zero] at g0 g1
    obtain ⟨k0, rfl, f0⟩ := one_int' g0
    obtain ⟨k1, rfl, f1⟩ := one_int' g1
    exact ⟨(k0, k1), rfl, f0, f1⟩
set_option maxRecDepth 100000 in
/-- A list that came in. -/
theorem open_grips {H : Type} {enc : TypeId × Value → H} {w : World} {v : Value} {d : DataW H} {ps : List MemPlace} (hv : ∃ a len cap, v = .slice a len cap) (h : DataW.Trod enc Try.prog w 0 (fun _ => true) true 32 v d ps) : ∃ xs, KG.IsL w w.heap.size v xs := by
  obtain ⟨a0, len0, cap0, rfl⟩ := hv
  obtain ⟨fuel, hf⟩ := h
  have hf' : DataW.trod enc Try.prog w 0 (fun _ => true) true fuel 32 [Value.slice a0 len0 cap0] = some (d, ps) := by simpa [Value.cells] using hf
  obtain ⟨v, xs, h1, h2, _⟩ := Lk.opened (K := KG) (fun _ => True) celg (fun fuel cs x h => by
    obtain ⟨q, e, h1, h2⟩ := grip_cs h
    exact ⟨q, e, ⟨h1, h2⟩, trivial⟩) hf'
  simp only [List.cons.injEq, and_true] at h1
  subst h1
  exact ⟨xs, h2⟩
set_option maxRecDepth 100000 in
/-- A list that came in. -/
theorem open_deeds {H : Type} {enc : TypeId × Value → H} {w : World} {v : Value} {d : DataW H} {ps : List MemPlace} (hv : ∃ a len cap, v = .slice a len cap) (h : DataW.Trod enc Try.prog w 0 (fun _ => true) true 38 v d ps) : ∃ xs, KD.IsL w w.heap.size v xs := by
  obtain ⟨a0, len0, cap0, rfl⟩ := hv
  obtain ⟨fuel, hf⟩ := h
  have hf' : DataW.trod enc Try.prog w 0 (fun _ => true) true fuel 38 [Value.slice a0 len0 cap0] = some (d, ps) := by simpa [Value.cells] using hf
  obtain ⟨v, xs, h1, h2, _⟩ := Lk.opened (K := KD) (fun _ => True) celd (fun fuel cs x h => by
    obtain ⟨q, e, h1, h2⟩ := deed_cs h
    exact ⟨q, e, ⟨h1, h2⟩, trivial⟩) hf'
  simp only [List.cons.injEq, and_true] at h1
  subst h1
  exact ⟨xs, h2⟩
end Go.Proofs.Ytbflkdkbfidleaa
