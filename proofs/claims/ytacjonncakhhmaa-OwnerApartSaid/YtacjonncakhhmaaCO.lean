/- How tips, deeds, changes and lists of whole numbers that came in are opened. -/
import Derived.Test.YtacjonncakhhmaaCB
import Derived.Test.YtacjonncakhhmaaHC
import Derived.OpenVars
namespace Go.Proofs.Ytacjonncakhhmaa
open Go.ChangeShapes Go.WideShapes Go.ChangeAt Go.RowKit Go.Deep

set_option maxRecDepth 100000 in
theorem celi3 : Try.prog.cellsOf 3 = 1 := by kernel_rfl
set_option maxRecDepth 100000 in
theorem ints_reads : Try.prog.readableRec 56 = true := by kernel_rfl
set_option maxRecDepth 100000 in
theorem ints_row : 56 < Try.prog.types.size := of_decide_eq_true (by kernel_rfl)
set_option maxRecDepth 100000 in
/-- A struct's fields that came in, each read by itself. -/
theorem fieldz {H : Type} {enc : TypeId × Value → H} {w : World} {fuel : Nat} {t : TypeId} {fs : Array Field} {cs : List Value} {x : DataW H × List MemPlace} (ht : Try.prog.underlying t = some (.struct fs)) (h : DataW.trod enc Try.prog w 0 (fun _ => true) true fuel t cs = some x) :
    cs.length = Try.prog.cellsOf t ∧ ∃ n, ∀ (i : Nat) (f : Field), fs[i]? = some f → ∃ y, DataW.trod enc Try.prog w 0 (fun _ => true) true n f.type ((cs.drop f.offset).take (Try.prog.cellsOf f.type)) = some y := by
  obtain ⟨xs, n, _, _, hl, hlen, hf⟩ := DataW.trod_struct ht h
  refine ⟨hl, n, fun i f hi => ?_⟩
  have hi' : i < xs.length := by
    rw [hlen]
    exact (Array.getElem?_eq_some_iff.1 hi).1
  exact ⟨xs[i], by rw [hf i f hi, List.getElem?_eq_getElem hi']⟩
set_option maxRecDepth 100000 in
theorem one_int' {H : Type} {enc : TypeId × Value → H} {w : World} {n : Nat} {c : Value} (h : ∃ y, DataW.trod enc Try.prog w 0 (fun _ => true) true n 3 [c] = some y) : ∃ k, c = .int .i64 k ∧ fits k := by
  obtain ⟨y, hy⟩ := h
  obtain ⟨k, e, _, hw⟩ := DataW.trod_int Try.underlying3 hy
  simp only [List.cons.injEq, and_true] at e
  exact ⟨k, e, int_fits hw⟩
set_option maxRecDepth 100000 in
/-- A list of whole numbers that came in. -/
theorem open_ints' {H : Type} {enc : TypeId × Value → H} {w : World} {v : Value} {d : DataW H} {ps : List MemPlace} (hv : ∃ a len cap, v = .slice a len cap) (h : DataW.Trod enc Try.prog w 0 (fun _ => true) true 56 v d ps) : ∃ xs, KI.IsL w w.heap.size v xs := by
  obtain ⟨a0, len0, cap0, rfl⟩ := hv
  obtain ⟨fuel, hf⟩ := h
  have hf' : DataW.trod enc Try.prog w 0 (fun _ => true) true fuel 56 [Value.slice a0 len0 cap0] = some (d, ps) := by simpa [Value.cells] using hf
  obtain ⟨v, xs, h1, h2, _⟩ := Lk.opened (K := KI) (fun _ => True) celi3 (fun fuel cs x h => by
    obtain ⟨k, e, _, hw⟩ := DataW.trod_int Try.underlying3 h
    exact ⟨k, e, int_fits hw, trivial⟩) hf'
  simp only [List.cons.injEq, and_true] at h1
  subst h1
  exact ⟨xs, h2⟩
set_option maxRecDepth 100000 in
theorem one_bool' {H : Type} {enc : TypeId × Value → H} {w : World} {n : Nat} {c : Value} (h : ∃ y, DataW.trod enc Try.prog w 0 (fun _ => true) true n 4 [c] = some y) : ∃ k, c = .bool k := by
  obtain ⟨y, hy⟩ := h
  cases n with
  | zero => simp [DataW.trod] at hy
  | succ n =>
    unfold DataW.trod at hy
    rw [Try.underlying4] at hy
    split at hy <;> simp_all
set_option maxRecDepth 100000 in
theorem celt44 : Try.prog.cellsOf 86 = 2 := by kernel_rfl
set_option maxRecDepth 100000 in
theorem celt32 : Try.prog.cellsOf 144 = 3 := by kernel_rfl
set_option maxRecDepth 100000 in
theorem celt4 : Try.prog.cellsOf 4 = 1 := by kernel_rfl
set_option maxRecDepth 100000 in
theorem tip_reads : Try.prog.readableRec 86 = true := by kernel_rfl
set_option maxRecDepth 100000 in
theorem tip_row : 86 < Try.prog.types.size := of_decide_eq_true (by kernel_rfl)
set_option maxRecDepth 100000 in
theorem tips_reads : Try.prog.readableRec 31 = true := by kernel_rfl
set_option maxRecDepth 100000 in
theorem tips_row : 31 < Try.prog.types.size := of_decide_eq_true (by kernel_rfl)
set_option maxRecDepth 100000 in
theorem changes_reads : Try.prog.readableRec 80 = true := by kernel_rfl
set_option maxRecDepth 100000 in
theorem changes_row : 80 < Try.prog.types.size := of_decide_eq_true (by kernel_rfl)
set_option maxRecDepth 100000 in
theorem tip_cs {H : Type} {enc : TypeId × Value → H} {w : World} {fuel : Nat} {cs : List Value} {x : DataW H × List MemPlace} (h : DataW.trod enc Try.prog w 0 (fun _ => true) true fuel 86 cs = some x) : ∃ q : Int × Int, cs = tpCells q ∧ fits q.1 ∧ fits q.2 := by
  obtain ⟨hl, n, hf⟩ := fieldz Try.underlying86 h
  rw [celt44] at hl
  match cs, hl with
  | [c0, c1], _ =>
    have g0 := hf 0 { name := "State", type := 3, offset := 0, embedded := false, tag := "", pkgPath := "", byteOffset := 0 } rfl
    have g1 := hf 1 { name := "By", type := 3, offset := 1, embedded := false, tag := "", pkgPath := "", byteOffset := 8 } rfl
    simp only [celi3, List.drop_zero, List.drop_succ_cons, List.take_succ_cons, List.take_zero] at g0 g1
    obtain ⟨k0, rfl, f0⟩ := one_int' g0
    obtain ⟨k1, rfl, f1⟩ := one_int' g1
    exact ⟨(k0, k1), rfl, f0, f1⟩
set_option maxRecDepth 100000 in
theorem change_cs {H : Type} {enc : TypeId × Value → H} {w : World} {fuel : Nat} {cs : List Value} {x : DataW H × List MemPlace} (h : DataW.trod enc Try.prog w 0 (fun _ => true) true fuel 144 cs = some x) : ∃ q : Ch, cs = chCells q ∧ fits q.a ∧ fits q.b ∧ fits q.c := by
  obtain ⟨hl, n, hf⟩ := fieldz Try.underlying144 h
  rw [celt32] at hl
  match cs, hl with
  | [c0, c1, c2], _ =>
    have g0 := hf 0 { name := "Ver", type := 3, offset := 0, embedded := false, tag := "", pkgPath := "", byteOffset := 0 } rfl
    have g1 := hf 1 { name := "By", type := 3, offset := 1, embedded := false, tag := "", pkgPath := "", byteOffset := 8 } rfl
    have g2 := hf 2 { name := "N", type := 3, offset := 2, embedded := false, tag := "", pkgPath := "", byteOffset := 16 } rfl
    simp only [celi3, List.drop_zero, List.drop_succ_cons, List.take_succ_cons, List.take_zero] at g0 g1 g2
    obtain ⟨k0, rfl, f0⟩ := one_int' g0
    obtain ⟨k1, rfl, f1⟩ := one_int' g1
    obtain ⟨k2, rfl, f2⟩ := one_int' g2
    exact ⟨⟨k0, k1, k2⟩, rfl, f0, f1, f2⟩
set_option maxRecDepth 100000 in
/-- A tip that came in. -/
theorem open_tip {H : Type} {enc : TypeId × Value → H} {W w : World} {r : Reach} {base : Nat} {v : Value} {d : DataW H} {ps : List MemPlace} (hv : Value.okWide Try.prog W r base 86 v) (h : DataW.Trod enc Try.prog w 0 (fun _ => true) true 86 v d ps) : ∃ a b : Int, v = .agg #[.int .i64 a, .int .i64 b] ∧ fits a ∧ fits b := by
  obtain ⟨ca, rfl, hca⟩ := okWide_struct Try.underlying86 hv
  obtain ⟨fuel, hf0⟩ := h
  obtain ⟨q, e, h1, h2⟩ := tip_cs hf0
  have hcs : (Value.agg ca).cells = ca := by simp [Value.cells]
  rw [hcs] at e
  refine ⟨q.1, q.2, ?_, h1, h2⟩
  rw [show ca = #[.int .i64 q.1, .int .i64 q.2] by cases ca; simpa [tpCells] using e]
set_option maxRecDepth 100000 in
/-- A list of tips that came in. -/
theorem cs_tips {H : Type} {enc : TypeId × Value → H} {w : World} {fuel : Nat} {cs : List Value} {x : DataW H × List MemPlace} (h : DataW.trod enc Try.prog w 0 (fun _ => true) true fuel 31 cs = some x) : ∃ v xs, cs = [v] ∧ KT.IsL w w.heap.size v xs := by
  obtain ⟨v, xs, h1, h2, _⟩ := Lk.opened (K := KT) (fun _ => True) celt44 (fun fuel cs x h => by
    obtain ⟨q, e, h1, h2⟩ := tip_cs h
    exact ⟨q, e, ⟨h1, h2⟩, trivial⟩) h
  exact ⟨v, xs, h1, h2⟩
set_option maxRecDepth 100000 in
theorem open_tips {H : Type} {enc : TypeId × Value → H} {w : World} {v : Value} {d : DataW H} {ps : List MemPlace} (hv : ∃ a len cap, v = .slice a len cap) (h : DataW.Trod enc Try.prog w 0 (fun _ => true) true 31 v d ps) : ∃ xs, KT.IsL w w.heap.size v xs := by
  obtain ⟨a0, len0, cap0, rfl⟩ := hv
  obtain ⟨fuel, hf⟩ := h
  obtain ⟨v, xs, h1, h2⟩ := cs_tips (show DataW.trod enc Try.prog w 0 (fun _ => true) true fuel 31 [Value.slice a0 len0 cap0] = some (d, ps) by simpa [Value.cells] using hf)
  simp only [List.cons.injEq, and_true] at h1
  subst h1
  exact ⟨xs, h2⟩
set_option maxRecDepth 100000 in
/-- A list of changes that came in. -/
theorem cs_changes {H : Type} {enc : TypeId × Value → H} {w : World} {fuel : Nat} {cs : List Value} {x : DataW H × List MemPlace} (h : DataW.trod enc Try.prog w 0 (fun _ => true) true fuel 80 cs = some x) : ∃ v xs, cs = [v] ∧ KC.IsL w w.heap.size v xs := by
  obtain ⟨v, xs, h1, h2, _⟩ := Lk.opened (K := KC) (fun _ => True) celt32 (fun fuel cs x h => by
    obtain ⟨q, e, h1, h2, h3⟩ := change_cs h
    exact ⟨q, e, ⟨h1, h2, h3⟩, trivial⟩) h
  exact ⟨v, xs, h1, h2⟩
set_option maxRecDepth 100000 in
theorem open_changes {H : Type} {enc : TypeId × Value → H} {w : World} {v : Value} {d : DataW H} {ps : List MemPlace} (hv : ∃ a len cap, v = .slice a len cap) (h : DataW.Trod enc Try.prog w 0 (fun _ => true) true 80 v d ps) : ∃ xs, KC.IsL w w.heap.size v xs := by
  obtain ⟨a0, len0, cap0, rfl⟩ := hv
  obtain ⟨fuel, hf⟩ := h
  obtain ⟨v, xs, h1, h2⟩ := cs_changes (show DataW.trod enc Try.prog w 0 (fun _ => true) true fuel 80 [Value.slice a0 len0 cap0] = some (d, ps) by simpa [Value.cells] using hf)
  simp only [List.cons.injEq, and_true] at h1
  subst h1
  exact ⟨xs, h2⟩
end Go.Proofs.Ytacjonncakhhmaa
