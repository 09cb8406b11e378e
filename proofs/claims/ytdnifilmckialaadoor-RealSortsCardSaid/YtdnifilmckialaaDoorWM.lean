/- Rows of floats of the call's own, and worlds that differ in one of them alone. -/
import Derived.Test.YtdnifilmckialaaDoorWF
import Derived.Test.YtdnifilmckialaaDoorMathS
import Derived.Laws.CopyOwn
import Derived.BigRegion
import Derived.Deep.LoopGhost
namespace Go.Proofs.YtdnifilmckialaaDoor
open Go.RowKit

def flv (xs : List Nat) : List Value := xs.map (Value.float .f64)
theorem flv_length (xs : List Nat) : (flv xs).length = xs.length := by simp [flv]
/-- Block g is these floats, and nothing else. -/
def Row (w : World) (g : Nat) (xs : List Nat) : Prop := w.heap[g]? = some (.cells (flv xs).toArray 22 (0, 0))
/-- Of w' nothing but block T is other than in w. -/
structure Only (T : Nat) (w w' : World) : Prop where
  os : w'.os = w.os
  tape : w'.tape = w.tape
  output : w'.output = w.output
  size : w'.heap.size = w.heap.size
  block : ∀ k, k ≠ T → w'.heap[k]? = w.heap[k]?
theorem Only.refl (T : Nat) (w : World) : Only T w w := ⟨rfl, rfl, rfl, rfl, fun _ _ => rfl⟩
theorem Only.trans {T : Nat} {a b c : World} (h : Only T a b) (k : Only T b c) : Only T a c :=
  ⟨k.os.trans h.os, k.tape.trans h.tape, k.output.trans h.output, k.size.trans h.size, fun i hi => (k.block i hi).trans (h.block i hi)⟩
theorem Only.drewN {T : Nat} {a b : World} (h : Only T a b) (d : Nat) : Only T a (b.drewN d) := ⟨h.os, h.tape, h.output, h.size, h.block⟩
theorem Only.setCell {T : Nat} {a w : World} (h : Only T a w) (i : Nat) (u : Value) : Only T a (w.setCell ⟨T, i, none⟩ u) :=
  h.trans ⟨rfl, rfl, rfl, by simp [World.setCell], fun k hk => Below.heap_setCell _ _ _ _ hk⟩
theorem Only.setRow {T : Nat} {a w : World} (h : Only T a w) (cs : Array Value) : Only T a (w.setRow T cs) :=
  h.trans ⟨rfl, rfl, rfl, by simp [World.setRow], fun k hk => setRow_other w T k cs hk⟩
theorem Row.lt {w : World} {g : Nat} {xs : List Nat} (h : Row w g xs) : g < w.heap.size := (Array.getElem?_eq_some_iff.1 h).1
theorem Row.cell {w : World} {g : Nat} {xs : List Nat} (h : Row w g xs) (i : Nat) (hi : i < xs.length) : w.cell? ⟨g, i, none⟩ = some (.float .f64 (xs.getD i 0)) := by
  unfold Row at h
  unfold World.cell?
  rw [h]
  simp [flv, List.getD, hi]
theorem Row.frozen {w : World} {g : Nat} {xs : List Nat} (h : Row w g xs) (i : Nat) : w.frozen? ⟨g, i, none⟩ = false := by
  unfold Row at h
  unfold World.frozen?
  rw [h]
  simp
theorem Row.other {T F : Nat} {w w' : World} {xs : List Nat} (h : Row w F xs) (ho : Only T w w') (hne : F ≠ T) : Row w' F xs := (ho.block F hne).trans h
theorem Row.set {w : World} {g : Nat} {xs : List Nat} (h : Row w g xs) (i v : Nat) : Row (w.setCell ⟨g, i, none⟩ (.float .f64 v)) g (xs.set i v) := by
  unfold Row at h ⊢
  unfold World.setCell
  simp only [Array.getElem?_modify, if_true, h, Option.map_some]
  congr 2
  simp [flv]
theorem Row.cells {w : World} {g : Nat} {xs : List Nat} (h : Row w g xs) : Cells w g 0 xs := fun i hi => by rw [Nat.zero_add]; exact h.cell i hi

/-- copy into a row of floats of the call's own: what goes over is laid from place 'off' on; nothing else is other. -/
theorem copy_only {P : Program} {w : World} {ops : Array Oper} {rest : List Oper} {o : Oper} {a : Act} {Q : Exit → Act → World → Prop} (hgd : o.guard = none) (d s : Operand) (dT sT : TypeId)
    (ho : o.op = .call { callee := .builtin .copy, args := #[d, s], argTypes := #[dT, sT] }) (elem : TypeId) (hu : P.underlying dT = some (.slice elem)) (hsz : (P.info? elem).map (·.size) = some 1)
    (dp sp : Option Addr) (dLen dCap sLen sCap : Nat) (hd : a.eval d = .slice dp dLen dCap) (hs : a.eval s = .slice sp sLen sCap)
    (g off : Nat) (zs cs : List Nat) (hg : Row w g zs) (hn : cs.length = Nat.min sLen dLen)
    (hpos : 0 < cs.length → dp = some ⟨g, off, none⟩ ∧ ∃ ad, sp = some ad ∧ ∀ j, j < cs.length → w.cell? (ad.add j) = some (.float .f64 (cs.getD j 0)))
    (hfit : off + cs.length ≤ zs.length)
    (h : ∀ w', Hid (Row w' g (zs.take off ++ (cs ++ zs.drop (off + cs.length)))) → Hid (Only g w w') → wpList P ops Q rest (a.put o.dst (goInt cs.length)) w') :
    wpList P ops Q (o :: rest) a w := by
  by_cases h0 : cs.length = 0
  · obtain rfl : cs = [] := List.eq_nil_of_length_eq_zero h0
    refine wpList_copy_nothing hgd d s dT sT ho elem hu hsz dp sp dLen dCap sLen sCap hd hs (by simpa using hn.symm) ?_
    refine h w ?_ (Only.refl _ _)
    show Row w g _
    simpa using hg
  · obtain ⟨rfl, ad, rfl, hsrc⟩ := hpos (by omega)
    have hl := flv_length cs
    refine wpList_copy_own hgd d s dT sT ho elem hu hsz g off dLen dCap ad sLen sCap hd hs (flv zs).toArray 22 hg (flv cs) (by rw [hl]; exact hn) ?_ (by simp [flv_length]; omega) ?_ ?_
    · intro j v hv
      have hj : j < cs.length := by
        have := (List.getElem?_eq_some_iff.1 hv).1
        omega
      rw [hsrc j hj, ← hv]
      simp [flv, List.getD, hj]
    · intro v hv
      simp only [flv, List.mem_map] at hv
      obtain ⟨x, _, rfl⟩ := hv
      rfl
    · rw [hl]
      refine h _ ?_ (Only.setRow (Only.refl _ _) _)
      show Row _ g _
      unfold Row
      have e := setRow_heap w g (flv zs).toArray (((flv zs).toArray.toList.take off ++ (flv cs ++ (flv zs).toArray.toList.drop (off + cs.length))).toArray) 22 (0, 0) hg
      rw [e]
      simp [flv, List.map_take, List.map_drop]
end Go.Proofs.YtdnifilmckialaaDoor
