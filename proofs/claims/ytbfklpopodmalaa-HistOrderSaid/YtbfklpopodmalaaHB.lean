/- Histories: events and calls in lists; what calls are; the same calls. -/
import Derived.Test.YtbfklpopodmalaaHA
import Derived.Test.YtbfklpopodmalaaBA
import Derived.Lib.Hide
import Derived.Shelf.Abstract
import Derived.Laws.StructEq
import Derived.Deep.LoopGhost
import Derived.BigQuiet
namespace Go.Proofs.Ytbfklpopodmalaa
open Go.RowKit
theorem Lk.IsL.elem {P : Program} {α : Type} {K : Lk P α} {w : World} {B : Nat} {A : Option Addr} {n c : Nat} {xs : List α} (h : K.IsL w B (.slice A n c) xs) (h0 : 0 < xs.length) : ∃ b off, A = some ⟨b, off, none⟩ ∧ b < B ∧ xs.length ≤ c ∧
    ∀ i, i < xs.length → ∀ j u, (K.cells (xs.getD i K.dflt))[j]? = some u → w.cell? ⟨b, off + (i * K.n + j), none⟩ = some u := by
  obtain ⟨⟨A', cap, hv, hc, hA⟩, _, _⟩ := h
  simp only [Value.slice.injEq] at hv
  obtain ⟨rfl, rfl, rfl⟩ := hv
  obtain ⟨b, off, e, hb, hcell⟩ := hA h0
  exact ⟨b, off, e, hb, hc, hcell⟩
theorem Lk.IsL.shape {P : Program} {α : Type} {K : Lk P α} {w : World} {B : Nat} {v : Value} {xs : List α} (h : K.IsL w B v xs) : ∃ A c, v = .slice A xs.length c ∧ xs.length ≤ c := by
  obtain ⟨⟨A, cap, rfl, hc, hA⟩, _, _⟩ := h
  exact ⟨A, cap, rfl, hc⟩
def evCells (q : Ev) : List Value := [.int .i64 q.k, .int .i64 q.w, .int .i64 q.n, .int .i64 q.a]
def ev0 : Ev := ⟨0, 0, 0, 0⟩
/-- Lists of events. -/
noncomputable def KE : Lk Try.prog Ev where
  S := 22
  E := 35
  n := 4
  zero := .agg #[.int .i64 0, .int .i64 0, .int .i64 0, .int .i64 0]
  bytes := 32
  cells := evCells
  dflt := ev0
  ok := fun q => fits q.k ∧ fits q.w ∧ fits q.n ∧ fits q.a
  und := Try.underlying22
  info := by kernel_rfl
  zs := rfl
  pos := by decide
  small := by decide
  len _ := rfl
  one x u hu := by
    simp only [evCells, List.mem_cons, List.not_mem_nil, or_false] at hu
    rcases hu with rfl | rfl | rfl | rfl <;> rfl
theorem ev_cells {w : World} {B : Nat} {A : Option Addr} {n c : Nat} {xs : List Ev} (h : KE.IsL w B (.slice A n c) xs) (h0 : 0 < xs.length) : ∃ b off, A = some ⟨b, off, none⟩ ∧ b < B ∧ xs.length ≤ c ∧
    ∀ i, i < xs.length → w.cell? ⟨b, off + i * 4, none⟩ = some (.int .i64 (xs.getD i ev0).k) ∧ w.cell? ⟨b, off + i * 4 + 1, none⟩ = some (.int .i64 (xs.getD i ev0).w) ∧ w.cell? ⟨b, off + i * 4 + 2, none⟩ = some (.int .i64 (xs.getD i ev0).n) ∧ w.cell? ⟨b, off + i * 4 + 3, none⟩ = some (.int .i64 (xs.getD i ev0).a) := by
  obtain ⟨b, off, e, hb, hc, hcell⟩ := h.elem h0
  refine ⟨b, off, e, hb, hc, fun i hi => ?_⟩
  have q := fun j u hu => hcell i hi j u hu
  have hn : KE.n = 4 := rfl
  simp only [hn, ← Nat.add_assoc] at q
  exact ⟨q 0 _ rfl, q 1 _ rfl, q 2 _ rfl, q 3 _ rfl⟩
def clCells (q : Int × Int) : List Value := [.int .i64 q.1, .int .i64 q.2]
/-- Lists of calls. -/
noncomputable def KC : Lk Try.prog (Int × Int) where
  S := 26
  E := 31
  n := 2
  zero := .agg #[.int .i64 0, .int .i64 0]
  bytes := 16
  cells := clCells
  dflt := (0, 0)
  ok := fun q => fits q.1 ∧ fits q.2
  und := Try.underlying26
  info := by kernel_rfl
  zs := rfl
  pos := by decide
  small := by decide
  len _ := rfl
  one x u hu := by
    simp only [clCells, List.mem_cons, List.not_mem_nil, or_false] at hu
    rcases hu with rfl | rfl <;> rfl
theorem cl_cells {w : World} {B : Nat} {A : Option Addr} {n c : Nat} {xs : List (Int × Int)} (h : KC.IsL w B (.slice A n c) xs) (h0 : 0 < xs.length) : ∃ b off, A = some ⟨b, off, none⟩ ∧ b < B ∧ xs.length ≤ c ∧
    ∀ i, i < xs.length → w.cell? ⟨b, off + i * 2, none⟩ = some (.int .i64 (xs.getD i (0, 0)).1) ∧ w.cell? ⟨b, off + i * 2 + 1, none⟩ = some (.int .i64 (xs.getD i (0, 0)).2) := by
  obtain ⟨b, off, e, hb, hc, hcell⟩ := h.elem h0
  refine ⟨b, off, e, hb, hc, fun i hi => ?_⟩
  have q := fun j u hu => hcell i hi j u hu
  have hn : KC.n = 2 := rfl
  simp only [hn, ← Nat.add_assoc] at q
  exact ⟨q 0 _ rfl, q 1 _ rfl⟩
theorem of_any (e : Ev) (w : World) : Calls Try.prog 20 #[.agg #[.int .i64 e.k, .int .i64 e.w, .int .i64 e.n, .int .i64 e.a]] w fun x w' => x = .returned (.agg #[.int .i64 e.w, .int .i64 e.n]) ∧ Below w.heap.size w w' := by
  have HB0 := Lib.hid (fun o1 o2 => show Below w.heap.size w ((w.alloc o1).alloc o2) from Below.al (Below.al (Below.refl _ _) _) _)
  go_enter Try.func20, Try.ntmps20
  go_wp2
  refine bodyPost_ret (v := .agg #[.int .i64 e.w, .int .i64 e.n]) (by simp [results, Try.results20, go_sem]) rfl ⟨rfl, ?_⟩
  first | exact HB0.out _ _ | exact Below.st (HB0.out _ _) (by simp) | exact Below.st (HB0.out _ _) (Nat.le_succ _)
set_option maxRecDepth 100000 in
set_option maxHeartbeats 4000000 in
theorem csame_any (v u : Value) (xs ys : List (Int × Int)) (w : World) (hv : KC.IsL w w.heap.size v xs) (hu : KC.IsL w w.heap.size u ys) :
    Calls Try.prog 9 #[v, u] w fun e w' => e = .returned (.bool (decide (xs = ys))) ∧ ∃ d, w' = w.drewN d := by
  have HV := Lib.hid hv
  have HU := Lib.hid hu
  obtain ⟨A, c, rfl, hc⟩ := hv.shape
  obtain ⟨A2, c2, rfl, hc2⟩ := hu.shape
  have hl := hv.2.2
  have hl2 := hu.2.2
  have HF := Lib.hid (fun h : xs ≠ ys => decide_eq_false h)
  have HT := Lib.hid (fun h : xs = ys => decide_eq_true h)
  have HX := Lib.hid (fun (hln : xs.length = ys.length) (h : ∀ j, j < xs.length → xs.getD j (0, 0) = ys.getD j (0, 0)) => (List.ext_getElem hln fun i h1 h2 => by
    have := h i h1
    rw [List.getD_eq_getElem?_getD, List.getD_eq_getElem?_getD, List.getElem?_eq_getElem h1, List.getElem?_eq_getElem h2] at this
    exact this : xs = ys))
  clear hv hu
  generalize decide (xs = ys) = z at *
  by_cases hln : (xs.length : Int) = ys.length
  · have hln2 : xs.length = ys.length := by omega
    have HLN := Lib.hid hln2
    rw [← hln2]
    rw [← hln2] at HU
    clear hln2 hln
    go_enter Try.func9, Try.ntmps9
    go_wp2
    go_loopg [5] xs.length (fun gh i wr => ∃ k d : Nat, k ≤ xs.length ∧ gh = xs.length - k ∧ i = .int .i64 k ∧ (∀ j, j < k → xs.getD j (0, 0) = ys.getD j (0, 0)) ∧ wr = w.drewN d)
    case atStart => exact ⟨0, 0, Nat.zero_le _, rfl, rfl, fun j hj => absurd hj (Nat.not_lt_zero _), rfl⟩
    case round =>
      obtain ⟨k, d, hk, rfl, rfl, hj, hw⟩ := hrel
      have HJ := Lib.hid hj
      have HW := Lib.hid hw
      clear hj
      by_cases hlt : k < xs.length
      · obtain ⟨b, off, rfl, hb, _, hcell⟩ := cl_cells HV.out (by omega)
        obtain ⟨b2, off2, rfl, hb2, _, hcell2⟩ := cl_cells HU.out (by have := HLN.out; omega)
        have e0 : wr.cell? ⟨b, off + k * 2, none⟩ = some (.int .i64 (xs.getD k (0, 0)).1) := by rw [hw]; exact (hcell k hlt).1
        have e1 : wr.cell? ⟨b, off + k * 2 + 1, none⟩ = some (.int .i64 (xs.getD k (0, 0)).2) := by rw [hw]; exact (hcell k hlt).2
        have e2 : wr.cell? ⟨b2, off2 + k * 2, none⟩ = some (.int .i64 (ys.getD k (0, 0)).1) := by rw [hw]; exact (hcell2 k (by have := HLN.out; omega)).1
        have e3 : wr.cell? ⟨b2, off2 + k * 2 + 1, none⟩ = some (.int .i64 (ys.getD k (0, 0)).2) := by rw [hw]; exact (hcell2 k (by have := HLN.out; omega)).2
        have HNE := Lib.hid (fun (h : xs.getD k (0, 0) ≠ ys.getD k (0, 0)) => HF.out (fun e => h (by rw [e])))
        clear hcell hcell2 hw
        obtain ⟨p, hp⟩ : ∃ p, xs.getD k (0, 0) = p := ⟨_, rfl⟩
        obtain ⟨r, hr⟩ : ∃ r, ys.getD k (0, 0) = r := ⟨_, rfl⟩
        have HP := Lib.hid hp
        have HR := Lib.hid hr
        rw [hp] at e0 e1 HNE
        rw [hr] at e2 e3 HNE
        clear hp hr
        obtain ⟨p1, p2⟩ := p
        obtain ⟨r1, r2⟩ := r
        simp only at e0 e1 e2 e3
        by_cases h1 : p1 = r1
        · by_cases h2 : p2 = r2
          · subst h1; subst h2
            go_wp2_with fail
            go_quiet (fail)
            go_wp2
            go_roundg (xs.length - (k + 1))
            case measure => omega
            case rel => exact ⟨k + 1, _, by omega, rfl, num_i (by omega), fun j hj => by
              by_cases e : j = k
              · subst e; rw [HP.out, HR.out]
              · exact HJ.out j (by omega), by rw [HW.out]; exact World.drewN_drewN _ _ _⟩
          · have HN := Lib.hid (HNE.out (by simp [h2]))
            subst h1
            have hq : (p2 == r2) = false := by rw [beq_eq_false_iff_ne]; exact h2
            clear h2
            go_wp2_with fail
            go_quiet (fail)
            go_wp2
            go_ret
            exact ⟨ret_b HN.out.symm, _, by rw [HW.out]; exact World.drewN_drewN _ _ _⟩
        · have HN := Lib.hid (HNE.out (by simp [h1]))
          have hq : (p1 == r1) = false := by rw [beq_eq_false_iff_ne]; exact h1
          clear h1
          go_wp2_with fail
          go_quiet (fail)
          go_wp2
          go_ret
          exact ⟨ret_b HN.out.symm, _, by rw [HW.out]; exact World.drewN_drewN _ _ _⟩
      · obtain rfl : k = xs.length := by omega
        clear hw
        go_wp2
        go_ret
        exact ⟨ret_b (HT.out (HX.out HLN.out HJ.out)).symm, _, HW.out⟩
  · have HN := Lib.hid (HF.out (fun e => hln (by rw [e])))
    go_enter Try.func9, Try.ntmps9
    go_wp2
    go_ret
    exact ⟨ret_b HN.out.symm, 0, rfl⟩
end Go.Proofs.Ytbfklpopodmalaa
