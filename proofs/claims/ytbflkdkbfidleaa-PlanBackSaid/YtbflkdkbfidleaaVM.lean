/- Plans: deeds that are being written. -/
import Derived.Test.YtbflkdkbfidleaaVD
import Derived.RangeFuncNested
import Derived.RangeFuncBound
import Derived.RangeFuncCalls
import Derived.RangeFuncLeaves
import Derived.RangeFuncBox
import Derived.RangeFuncOne
import Derived.Shelf.Abstract
import Derived.Shelf.RegionOpen
import Derived.OwnWalkIn
import Derived.TacticsInMore
import Derived.LoopNIn
import Derived.LoopIn
import Derived.Maps.AppendAt
namespace Go.Proofs.Ytbflkdkbfidleaa
open Go.RowKit Go.Shelf
attribute [local go_sem] Oper.semAt_some
/-- Deeds that are being written: a cell that holds the call's own list. -/
structure Ls (w : World) (L base : Nat) (xs : List (Int × Int)) : Prop where
  c : ∃ v, w.cell? ⟨L, 0, none⟩ = some v ∧ KD.Own w base v xs
  z : w.frozen? ⟨L, 0, none⟩ = false
  lt : L < w.heap.size
  le : L < base
theorem own_ne {w : World} {base L : Nat} {v : Value} {xs : List (Int × Int)} (h : KD.Own w base v xs) (hL : L < base) : some L ≠ v.ownBlock := fun e => by
  have := (h.lt L e.symm).1
  omega
theorem cell_grown' {w w' : World} {b o : Nat} {row : Option Nat} {v : Value} (h : w.cell? ⟨b, o, none⟩ = some v) (hg : w.grownBy w' row) (hb : b < w.heap.size) (hne : some b ≠ row) : w'.cell? ⟨b, o, none⟩ = some v := by
  have e := hg.block b hb hne
  have : w'.cell? ⟨b, o, none⟩ = w.cell? ⟨b, o, none⟩ := by simp only [World.cell?, e]
  rw [this, h]
theorem fz_grown' {w w' : World} {b o : Nat} {row : Option Nat} (h : w.frozen? ⟨b, o, none⟩ = false) (hg : w.grownBy w' row) (hb : b < w.heap.size) (hne : some b ≠ row) : w'.frozen? ⟨b, o, none⟩ = false := by
  have e := hg.block b hb hne
  have : w'.frozen? ⟨b, o, none⟩ = w.frozen? ⟨b, o, none⟩ := by simp only [World.frozen?, e]
  rw [this, h]
/-- A store elsewhere leaves an own list. -/
theorem Lk.Own.stored {P : Program} {α : Type} {K : Lk P α} {w : World} {base L : Nat} {v : Value} {xs : List α} (h : K.Own w base v xs) (hL : L < base) (u : Value) : K.Own (w.setCell ⟨L, 0, none⟩ u) base v xs :=
  h.kept (row := some L) (grownBy_setCell' w L u) (by
    cases hb : v.ownBlock with
    | none => exact .inl rfl
    | some j => exact .inr fun e => by cases e; have := (h.lt _ hb).1; omega)
theorem Ls.al {w : World} {L base : Nat} {xs : List (Int × Int)} (h : Ls w L base xs) (o : Obj) : Ls (w.alloc o) L base xs :=
  let ⟨v, c, q⟩ := h.c
  ⟨⟨v, cell_grown' c (World.grownBy_alloc w o none) h.lt (by simp), q.alloc o⟩, fz_grown' h.z (World.grownBy_alloc w o none) h.lt (by simp), by rw [World.size_alloc]; exact Nat.lt_succ_of_lt h.lt, h.le⟩
theorem app_ty (w : World) (ty : TypeId) (v u : Value) : (Builtin.append_ #[58, 38] ty #[v, u]).run Try.prog w = (Builtin.append_ #[38, 38] ty #[v, u]).run Try.prog w := by
  simp [Builtin.append_, run_underlying Try.underlying58, run_underlying Try.underlying38]
theorem wpList_appD {ops : Array Oper} {rest : List Oper} {o : Oper} {a : Act} {Q : Exit → Act → World → Prop} (w : World) (hgd : o.guard = none) (s x : Operand)
    (ho : o.op = .call { callee := .builtin .append, args := #[s, x], argTypes := #[58, 38] }) (base B : Nat) (v src : Value) (xs ys : List (Int × Int)) (hs : a.eval s = v) (hx : a.eval x = src)
    (h : KD.Own w base v xs) (hy : KD.IsL w B src ys) (hl : xs.length + ys.length ≤ 1000000) (hb : base ≤ w.heap.size)
    (hk : ∀ v' w', KD.Own w' base v' (xs ++ ys) → w.grownBy w' v.ownBlock → (v'.ownBlock = v.ownBlock ∨ v'.ownBlock = some w.heap.size) → wpList Try.prog ops Q rest (a.put o.dst v') w') : wpList Try.prog ops Q (o :: rest) a w := by
  refine wpList_plain hgd fun _ hK => ?_
  obtain ⟨v', w', hrun, h2, h3, h4⟩ := Lk.run_app (K := KD) w base B o.type v src xs ys h hy hl hb
  have hrun : (Builtin.append_ #[38, 38] o.type #[v, src]).run Try.prog w = .ok v' w' := hrun
  unfold Oper.wp execOp
  simp only [ho, resolve, invoke, builtin, Sem.run_bind, Sem.run_pure, Result.andThen_ok, List.map_toArray, List.map_cons, List.map_nil, hs, hx, app_ty, hrun]
  exact hK _ _ (hk v' w' h2 h3 h4)
set_option maxRecDepth 100000 in
set_option maxHeartbeats 4000000 in
theorem write_any (w : World) (L base base0 : Nat) (xs ys : List (Int × Int)) (u : Value) (h : Ls w L base xs) (hu : KD.IsL w w.heap.size u ys) (hl : xs.length + ys.length ≤ 100000) (hb : base ≤ w.heap.size) (h0 : base0 ≤ L) :
    Calls Try.prog 52 #[.pointer (some ⟨L, 0, none⟩), u] w fun e w' => e = .returned (.tuple #[]) ∧ Ls w' L base (xs ++ ys) ∧ Below base0 w w' ∧ KeepsOthers w w' ∧ ∀ B t v, t ≠ 48 → B ≠ L → Boxed w B t v → Boxed w' B t v := by
  have HH := Lib.hid h
  have HU := Lib.hid hu
  obtain ⟨A, c, rfl, hc⟩ := hu.shape
  obtain ⟨v, c0, ho⟩ := h.c
  have HO := Lib.hid ho
  clear h hu ho
  go_enter Try.func52, Try.ntmps52
  go_wp2_with (at_builtin; refine wpList_appD _ rfl _ _ rfl base w.heap.size _ _ xs ys rfl rfl HO.out HU.out ?c1 ?c2 ?_)
  case c1 => omega
  case c2 => exact hb
  intro v1 w4 hown hgrow _
  have HB4 := Lib.hid ((Below.refl base0 w).grown hgrow (by have := HH.out.le; omega) (fun k hk => by have := (HO.out.lt k hk).1; have := HH.out.le; omega))
  have c4 := cell_grown' c0 hgrow HH.out.lt (own_ne HO.out HH.out.le)
  have z4 := fz_grown' HH.out.z hgrow HH.out.lt (own_ne HO.out HH.out.le)
  have HL4 := Lib.hid (Nat.lt_of_lt_of_le HH.out.lt hgrow.size)
  have HO4 := Lib.hid hown
  have HC4 := Lib.hid c4
  have HZ4 := Lib.hid z4
  have HLE := Lib.hid HH.out.le
  have HKO := Lib.hid (KeepsOthers.of_grownBy hgrow (fun j o hj ho => by
    rcases HO.out.1.2 with ⟨e, _⟩ | ⟨g, cap, cur, e, _, hgb, _⟩
    · rw [e] at hj; cases hj
    · rw [e] at hj
      simp only [Value.ownBlock, Option.some.injEq] at hj
      subst hj
      rw [hgb] at ho
      cases ho
      rfl))
  have HBX := Lib.hid (fun (B : Nat) (t : TypeId) (v : Value) (ht : t ≠ 48) (hB : B ≠ L) (hx : Boxed w B t v) => show ∀ u, Boxed (w4.setCell ⟨L, 0, none⟩ u) B t v from fun u =>
    (hx.kept hgrow (hx.not_row ht HO.out.1)).kept (grownBy_setCell' w4 L u) (fun e => hB (by injection e)))
  clear hown hgrow c0
  obtain ⟨A4, k4, rfl, _⟩ := (HO4.out.isL (by rw [List.length_append]; omega)).shape
  generalize (xs ++ ys).length = m4 at *
  go_wp2
  go_end0
  exact ⟨rfl, ⟨⟨_, st_same HC4.out, HO4.out.stored HLE.out _⟩, st_fz HZ4.out, by simpa using HL4.out, HLE.out⟩, HB4.out.setCell h0 _, HKO.out.trans (KeepsOthers.setCell _ _ _), fun B t v ht hB hx => HBX.out B t v ht hB hx _⟩
end Go.Proofs.Ytbflkdkbfidleaa
