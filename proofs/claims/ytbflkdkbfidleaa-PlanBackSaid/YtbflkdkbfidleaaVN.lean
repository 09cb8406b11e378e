/- Plans: a list from its end, as a range over a function tells it. -/
import Derived.Test.YtbflkdkbfidleaaVM
namespace Go.Proofs.Ytbflkdkbfidleaa
open Go.RowKit Go.Shelf
attribute [local go_sem] Oper.semAt_some
/-- A number as it may come; what is none is 0. -/
def cl (x : Int) : Int := if fits x then x else 0
theorem cl_fits (x : Int) : fits (cl x) := by unfold cl; split <;> first | assumption | decide
theorem cl_of {x : Int} (h : fits x) : cl x = x := if_pos h
abbrev enc2 (x : Int × Int) : Array Value := #[.int .i64 x.1, .int .i64 (cl x.2)]
/-- A list from its end down to a place. -/
def bwL (ids : List Int) (m : Nat) : List (Int × Int) := (List.range (ids.length - m)).map fun j => (((ids.length - 1 - j : Nat) : Int), ids.getD (ids.length - 1 - j) 0)
theorem bwL_end (ids : List Int) : bwL ids ids.length = [] := by unfold bwL; simp
theorem bwL_step (ids : List Int) (m : Nat) (h : m < ids.length) : bwL ids m = bwL ids (m + 1) ++ [((m : Int), ids.getD m 0)] := by
  unfold bwL
  rw [show ids.length - m = (ids.length - (m + 1)) + 1 by omega, List.range_succ, List.map_append, List.map_singleton, show ids.length - 1 - (ids.length - (m + 1)) = m by omega]
theorem bwL_len (ids : List Int) (m : Nat) : (bwL ids m).length = ids.length - m := by unfold bwL; simp
theorem bwL_pre (ids : List Int) : ∀ m, m ≤ ids.length → bwL ids m <+: bwL ids 0
  | 0, _ => List.prefix_rfl
  | m + 1, h => by
    have := bwL_pre ids m (by omega)
    rw [bwL_step ids m (by omega)] at this
    exact (List.prefix_append _ _).trans this
theorem bwL_snd (ids : List Int) : ∀ m, m ≤ ids.length → (bwL ids m).map Prod.snd = (ids.drop m).reverse := by
  have key : ∀ n m, ids.length - m = n → m ≤ ids.length → (bwL ids m).map Prod.snd = (ids.drop m).reverse := by
    intro n
    induction n with
    | zero =>
      intro m h1 h2
      obtain rfl : m = ids.length := by omega
      rw [bwL_end, List.drop_length]
      rfl
    | succ n ih =>
      intro m h1 h2
      rw [bwL_step ids m (by omega), List.map_append, ih (m + 1) (by omega) (by omega), drop_snoc ids m 0 (by omega), List.reverse_cons]
      rfl
  exact fun m h => key _ m rfl h
/-- What a round keeps: what lies below a block, and the box of the list. -/
def Kb (B Br : Nat) (s : Value) (W W' : World) : Prop := Below B W W' ∧ (Boxed W Br 22 s → Boxed W' Br 22 s)
theorem Kb.refl (B Br : Nat) (s : Value) (W : World) : Kb B Br s W W := ⟨Below.refl _ _, fun h => h⟩
theorem Kb.trans {B Br : Nat} {s : Value} {W W1 W2 : World} (h : Kb B Br s W W1) (k : Kb B Br s W1 W2) : Kb B Br s W W2 := ⟨h.1.trans k.1, fun e => k.2 (h.2 e)⟩
theorem Kb.put {B Br : Nat} {s : Value} {w : World} (hB : B ≤ w.heap.size) (W : World) (l : Nat) (o o' : Obj) (hl : w.heap.size ≤ l) (ho : W.heap[l]? = some o) (hc : o.isCells = false) (hw : o.isWalk = false) : Kb B Br s W (W.putObj l o') :=
  ⟨belowK_b hB W l o o' hl ho hc hw, fun h => h.kept (grownBy_putObj' W l o') (fun e => by
    have : Br = l := by injection e
    subst this
    rw [show W.heap[Br]? = _ from h] at ho
    cases ho
    cases hc)⟩
set_option maxRecDepth 100000 in
set_option maxHeartbeats 4000000 in
theorem bw_in (n : Nat) (hn : 1 ≤ n) (l Br n₀ : Nat) (ids : List Int) (A : Option Addr) (c : Nat) (J Jx : List (Int × Int) → World → Prop)
    (hY : ∀ pre x W, J pre W → pre.length < ids.length → YieldAt Fence.wide (n - 1) Try.prog l (enc2 x) W fun e W' =>
      (e = .returned (.bool true) ∧ J (pre ++ [x]) W' ∧ Kb n₀ Br (.slice A ids.length c) W W') ∨ (e = .returned (.bool false) ∧ Jx (pre ++ [x]) W'))
    (W : World) (hBr : Boxed W Br 22 (.slice A ids.length c)) (hr : KI.IsL W n₀ (.slice A ids.length c) ids) (h0 : J [] W) :
    CallsIn Fence.wide n Try.prog 68 #[.func (.yield l) #[] #[], .pointer (some ⟨Br, 0, none⟩)] W fun e W' => (∃ v, e = .returned v) ∧
      ((∃ ys, ys = bwL ids 0 ∧ J ys W') ∨ (∃ pre, pre <+: bwL ids 0 ∧ Jx pre W')) := by
  have HY := Lib.hid hY
  have HR := Lib.hid hr
  have HJ := Lib.hid h0
  have HBR := Lib.hid hBr
  have hlen := hr.2.2
  have cb := hBr.cell
  clear hY hr h0 hBr
  refine callsIn_of_wp Try.func68 rfl trivial ?_ rfl
  simp only [Try.ntmps68, List.size_toArray, List.length_cons, List.length_nil, Nat.reduceAdd, Nat.reduceSub, Array.replicate_succ, Array.replicate_zero, List.push_toArray, List.append_toArray, List.nil_append, List.cons_append]
  gi_wp2
  gi_loopw [3] (fun i wr => ∃ m : Nat, m ≤ ids.length ∧ i = .int .i64 ((m : Int) - 1) ∧ J (bwL ids m) wr ∧ Kb n₀ Br (.slice A ids.length c) W wr) (fun i _ => (intOf i + 1).toNat)
  case atStart => exact ⟨ids.length, Nat.le_refl _, rfl, by rw [bwL_end]; exact HJ.out, Kb.refl _ _ _ _⟩
  case round =>
    obtain ⟨m, hm, rfl, hJs, hnx⟩ := hrel
    have HJS := Lib.hid hJs
    have HNX := Lib.hid hnx
    clear hJs hnx
    by_cases h0 : m = 0
    · subst h0
      gi_wp2
      go_end0
      exact ⟨⟨_, rfl⟩, .inl ⟨_, rfl, HJS.out⟩⟩
    · obtain ⟨j, rfl⟩ : ∃ j, m = j + 1 := ⟨m - 1, by omega⟩
      have hjw : ((j + 1 : Nat) : Int) - 1 = j := by omega
      rw [hjw]
      clear hjw
      have hj : j < ids.length := by omega
      obtain ⟨b0, off, cap, hA, hcap, hb0, hlm, hcell, hfit⟩ := KI.cells HR.out (show 0 < ids.length by omega)
      have hci : wr.cell? ⟨b0, off + j, none⟩ = some (.int .i64 (ids.getD j 0)) := (HNX.out.1.cell (p := ⟨b0, off + j, none⟩) hb0).trans (hcell j hj)
      have hfk := cl_of (hfit j hj)
      have cb2 := (HNX.out.2 HBR.out).cell
      have HTK := Lib.hid (bwL_step ids j hj)
      simp only [Value.slice.injEq] at hA
      obtain ⟨rfl, -, rfl⟩ := hA
      clear hcell hfit
      obtain ⟨fn, tmps, assign, body, hy, hR⟩ := HY.out _ ((j : Int), ids.getD j 0) wr HJS.out (by rw [bwL_len]; omega)
      dsimp only [enc2] at hy
      rw [hfk] at hy
      clear hfk
      generalize ids.getD j 0 = x at *
      gi_wp2
      refine hR.mono ?_
      clear hR hy hci
      rintro e W3 (⟨rfl, hJ3, hk3⟩ | ⟨rfl, hJx3⟩)
      · gi_wp2
        go_roundw
        case rel => exact ⟨j, by omega, num_i (by omega), by rw [HTK.out]; exact hJ3, HNX.out.trans hk3⟩
        case measure => simp [intOf]
      · gi_wp2
        refine bodyPost_ret (results_none rfl _ _ _) rfl ?_
        refine ⟨⟨_, rfl⟩, .inr ⟨_, ?_, hJx3⟩⟩
        rw [← HTK.out]
        exact bwL_pre ids j (by omega)
theorem bw_stops (n : Nat) (hn : 1 ≤ n) (Br n₀ : Nat) (ids : List Int) (A : Option Addr) (c : Nat) (w : World) (hBr : Boxed w Br 22 (.slice A ids.length c)) (hn₀ : n₀ ≤ w.heap.size) (hr : KI.IsL w n₀ (.slice A ids.length c) ids) :
    SeqStopsK Fence.wide n Try.prog 68 #[.pointer (some ⟨Br, 0, none⟩)] enc2 (Kb n₀ Br (.slice A ids.length c)) (fun ys => ys = bwL ids 0) (fun pre => pre <+: bwL ids 0) ids.length w :=
  fun l J Jx W hW _ _ hY h0 => bw_in n hn l Br n₀ ids A c J Jx hY W ((hW.block Br hBr.lt).trans hBr) (hr.below (hW.mono hn₀)) h0
theorem backward_any (v : Value) (A : Option Addr) (n c : Nat) (hv : v = .slice A n c) (w : World) : Calls Try.prog 64 #[v] w fun e w' => e = .returned (.func (.func 68) #[] #[.pointer (some ⟨w.heap.size, 0, none⟩)]) ∧ w' = w.alloc (.cells #[v] 22) := by
  subst hv
  have hmf : ∀ (fn : Fn) (first cap : Array Value) (w : World), (Instr.makeFunc fn first cap).run Try.prog w = .ok (.func fn first cap) w := fun _ _ _ _ => rfl
  go_enter Try.func64, Try.ntmps64
  go_wp2
  go_ret
  exact ⟨rfl, rfl⟩
end Go.Proofs.Ytbflkdkbfidleaa
