/- How many places there are on plates and racks: what the program answers. -/
import Derived.Test.YtlgpnjbhmoomfaaDB
namespace Go.Proofs.Ytlgpnjbhmoomfaa
open Go.RowKit

/-- A plate's cells. -/
theorem plate_cells {w : World} {B : Nat} {A : Option Addr} {n c : Nat} {xs : List Pl} (h : KP.IsL w B (.slice A n c) xs) (h0 : 0 < xs.length) : ∃ b off, A = some ⟨b, off, none⟩ ∧ b < B ∧ xs.length ≤ c ∧
    ∀ i, i < xs.length → w.cell? ⟨b, off + i * 7, none⟩ = some (.int .i64 (xs.getD i KP.dflt).rows) ∧ w.cell? ⟨b, off + i * 7 + 1, none⟩ = some (.int .i64 (xs.getD i KP.dflt).cols) ∧ w.cell? ⟨b, off + i * 7 + 2, none⟩ = some (.float .f64 (xs.getD i KP.dflt).x) ∧
      w.cell? ⟨b, off + i * 7 + 3, none⟩ = some (.float .f64 (xs.getD i KP.dflt).p) ∧ w.cell? ⟨b, off + i * 7 + 4, none⟩ = some (.float .f64 (xs.getD i KP.dflt).r) ∧ w.cell? ⟨b, off + i * 7 + 5, none⟩ = some (.int .i64 (xs.getD i KP.dflt).cap) ∧
      w.cell? ⟨b, off + i * 7 + 6, none⟩ = some (.slice (xs.getD i KP.dflt).sA (xs.getD i KP.dflt).sn (xs.getD i KP.dflt).sc) := by
  obtain ⟨b, off, e, hb, hc, hcell⟩ := h.elem h0
  refine ⟨b, off, e, hb, hc, fun i hi => ?_⟩
  have q := fun j u hu => hcell i hi j u hu
  have hn : KP.n = 7 := rfl
  simp only [hn, ← Nat.add_assoc] at q
  exact ⟨q 0 _ rfl, q 1 _ rfl, q 2 _ rfl, q 3 _ rfl, q 4 _ rfl, q 5 _ rfl, q 6 _ rfl⟩
theorem rack_cells {w : World} {B : Nat} {A : Option Addr} {n c : Nat} {xs : List Rk} (h : KR.IsL w B (.slice A n c) xs) (h0 : 0 < xs.length) : ∃ b off, A = some ⟨b, off, none⟩ ∧ b < B ∧ xs.length ≤ c ∧
    ∀ i, i < xs.length → w.cell? ⟨b, off + i * 5, none⟩ = some (.int .i64 (xs.getD i KR.dflt).rows) ∧ w.cell? ⟨b, off + i * 5 + 1, none⟩ = some (.int .i64 (xs.getD i KR.dflt).cols) ∧ w.cell? ⟨b, off + i * 5 + 2, none⟩ = some (.float .f64 (xs.getD i KR.dflt).x) ∧
      w.cell? ⟨b, off + i * 5 + 3, none⟩ = some (.float .f64 (xs.getD i KR.dflt).p) ∧ w.cell? ⟨b, off + i * 5 + 4, none⟩ = some (.float .f64 (xs.getD i KR.dflt).r) := by
  obtain ⟨b, off, e, hb, hc, hcell⟩ := h.elem h0
  refine ⟨b, off, e, hb, hc, fun i hi => ?_⟩
  have q := fun j u hu => hcell i hi j u hu
  have hn : KR.n = 5 := rfl
  simp only [hn, ← Nat.add_assoc] at q
  exact ⟨q 0 _ rfl, q 1 _ rfl, q 2 _ rfl, q 3 _ rfl, q 4 _ rfl⟩
theorem q4_cells {K : Lk Try.prog Q4} (hK : K.n = 4) (hC : K.cells = q4Cells) (hD : K.dflt = ⟨0, 0, 0, 0⟩) {w : World} {B : Nat} {A : Option Addr} {n c : Nat} {xs : List Q4} (h : K.IsL w B (.slice A n c) xs) (h0 : 0 < xs.length) : ∃ b off, A = some ⟨b, off, none⟩ ∧ b < B ∧ xs.length ≤ c ∧
    ∀ i, i < xs.length → w.cell? ⟨b, off + i * 4, none⟩ = some (.int .i64 (xs.getD i ⟨0, 0, 0, 0⟩).a) ∧ w.cell? ⟨b, off + i * 4 + 1, none⟩ = some (.int .i64 (xs.getD i ⟨0, 0, 0, 0⟩).b) ∧
      w.cell? ⟨b, off + i * 4 + 2, none⟩ = some (.int .i64 (xs.getD i ⟨0, 0, 0, 0⟩).c) ∧ w.cell? ⟨b, off + i * 4 + 3, none⟩ = some (.int .i64 (xs.getD i ⟨0, 0, 0, 0⟩).d) := by
  obtain ⟨b, off, e, hb, hc, hcell⟩ := h.elem h0
  refine ⟨b, off, e, hb, hc, fun i hi => ?_⟩
  have q := fun j u hu => hcell i hi j u hu
  rw [hK, hC, hD] at q
  simp only [← Nat.add_assoc] at q
  exact ⟨q 0 _ rfl, q 1 _ rfl, q 2 _ rfl, q 3 _ rfl⟩
/-- How many places there are. -/
def wellsV (l : List Pl) : Int := (l.map fun q => q.rows * q.cols).sum
def tipsV (l : List Rk) : Int := (l.map fun q => q.rows * q.cols).sum
theorem wells_snoc (l : List Pl) (k : Nat) (h : k < l.length) : wellsV (l.take (k + 1)) = wellsV (l.take k) + (l.getD k KP.dflt).rows * (l.getD k KP.dflt).cols := by
  rw [take_snoc l k KP.dflt h]
  unfold wellsV
  rw [List.map_append, List.sum_append]
  simp
theorem tips_snoc (l : List Rk) (k : Nat) (h : k < l.length) : tipsV (l.take (k + 1)) = tipsV (l.take k) + (l.getD k KR.dflt).rows * (l.getD k KR.dflt).cols := by
  rw [take_snoc l k KR.dflt h]
  unfold tipsV
  rw [List.map_append, List.sum_append]
  simp
theorem wells_bd (l : List Pl) (h : ∀ i, i < l.length → sizeB (l.getD i KP.dflt).rows (l.getD i KP.dflt).cols = true) : ∀ k, k ≤ l.length → (k : Int) ≤ wellsV (l.take k) ∧ wellsV (l.take k) ≤ 1536 * k := by
  intro k
  induction k with
  | zero => intro _; simp [wellsV]
  | succ k ih =>
    intro hk
    obtain ⟨i1, i2⟩ := ih (by omega)
    rw [wells_snoc l k (by omega)]
    obtain ⟨m1, m2⟩ := size_mul (h k (by omega))
    omega
theorem tips_bd (l : List Rk) (h : ∀ i, i < l.length → sizeB (l.getD i KR.dflt).rows (l.getD i KR.dflt).cols = true) : ∀ k, k ≤ l.length → (k : Int) ≤ tipsV (l.take k) ∧ tipsV (l.take k) ≤ 1536 * k := by
  intro k
  induction k with
  | zero => intro _; simp [tipsV]
  | succ k ih =>
    intro hk
    obtain ⟨i1, i2⟩ := ih (by omega)
    rw [tips_snoc l k (by omega)]
    obtain ⟨m1, m2⟩ := size_mul (h k (by omega))
    omega
theorem alloc_cell (w : World) (c : Array Value) (t : TypeId) (i : Nat) (v : Value) (h : c[i]? = some v) : (w.alloc (.cells c t)).cell? ⟨w.heap.size, i, none⟩ = some v := by rw [World.cell?_alloc_at (hn := rfl), h]
theorem run_store_float {P : Program} {w : World} {a : Addr} {m : Mode} (k : FloatKind) (b : Nat) : (store a (.float k b) m).run P w = stored P w a (.float k b) m := run_store P w a _ m rfl

set_option maxRecDepth 100000 in
set_option maxHeartbeats 4000000 in
theorem places_any (d : Dk) (w : World) (hd : d.In w w.heap.size) (hp : d.pl.length ≤ 4) (hr : d.rl.length ≤ 4) (h1 : ∀ i, i < d.pl.length → sizeB (d.pl.getD i KP.dflt).rows (d.pl.getD i KP.dflt).cols = true)
    (h2 : ∀ i, i < d.rl.length → sizeB (d.rl.getD i KR.dflt).rows (d.rl.getD i KR.dflt).cols = true) :
    Calls Try.prog 78 #[d.v] w fun e w' => e = .returned (.tuple #[.int .i64 (wellsV d.pl), .int .i64 (tipsV d.rl)]) ∧ Below w.heap.size w w' := by
  have HW := Lib.hid (wells_bd d.pl h1)
  have HT := Lib.hid (tips_bd d.rl h2)
  have H1 := Lib.hid h1
  have H2 := Lib.hid h2
  have HD := Lib.hid hd
  have HSW := Lib.hid (wells_snoc d.pl)
  have HST := Lib.hid (tips_snoc d.rl)
  have e1 := hd.p.len
  have e2 := hd.r.len
  obtain ⟨bA, bn, bc, bl, pA, pn, pc, pl, rA, rn, rc, rl, arms⟩ := d
  dsimp only at *
  subst e1 e2
  clear h1 h2 hd
  have hsf := fun (w : World) (a : Addr) (m : Mode) (b : Nat) => run_store_float (P := Try.prog) (w := w) (a := a) (m := m) .f64 b
  go_enter Try.func78, Try.ntmps78
  go_wp2
  obtain ⟨w0, hw0⟩ : ∃ w0, w0 = w.alloc (.cells #[.slice bA bn bc, .slice pA pl.length pc, .slice rA rl.length rc, .int .i64 arms] 26) := ⟨_, rfl⟩
  rw [← hw0]
  have f2 : w0.cell? ⟨w.heap.size, 2, none⟩ = some (.slice rA rl.length rc) := by rw [hw0]; exact alloc_cell _ _ _ _ _ rfl
  have HB0 := Lib.hid (show Below w.heap.size w w0 by rw [hw0]; exact Below.al (Below.refl _ _) _)
  have HD0 := Lib.hid (HD.out.then HB0.out)
  have F2 := Lib.hid f2
  clear hw0 f2
  go_loopw [2, 11] (fun s i wr => ∃ k : Nat, k ≤ pl.length ∧ i = .int .i64 k ∧ s = .int .i64 (wellsV (pl.take k)) ∧ Below w0.heap.size w0 wr) (fun _ i _ => pl.length - (intOf i).toNat)
  case atStart => exact ⟨0, Nat.zero_le _, rfl, rfl, Below.refl _ _⟩
  case round =>
    obtain ⟨k, hk, rfl, rfl, hbl⟩ := hrel
    have HB := Lib.hid hbl
    clear hbl
    obtain ⟨b1, b2⟩ := HW.out k hk
    by_cases hlt : k < pl.length
    · obtain ⟨b, off, rfl, hb, hc, hcell⟩ := plate_cells (HD0.out.p.below HB.out) (by dsimp only; omega)
      obtain ⟨c0, c1, c2, c3, c4, c5, c6⟩ := hcell k hlt
      have HS := Lib.hid (HSW.out k hlt)
      obtain ⟨m1, m2⟩ := size_mul (H1.out k hlt)
      clear hcell
      dsimp only at *
      generalize pl.getD k KP.dflt = q at *
      generalize wellsV (pl.take k) = s at *
      go_wp2
      go_roundw
      case rel => exact ⟨k + 1, by omega, num_i (by omega), num_i (by rw [HS.out]), Below.al HB.out _⟩
      case measure => simp [intOf]; omega
    · obtain rfl : k = pl.length := by omega
      rw [List.take_length]
      rw [List.take_length] at b1 b2
      have g2 := keep_cell HB.out F2.out
      generalize hs : wellsV pl = s at *
      have HSS := Lib.hid hs
      clear hs
      go_wp2
      obtain ⟨w1, hw1⟩ : ∃ w1, w1 = wr := ⟨_, rfl⟩
      subst hw1
      have HD1 := Lib.hid (HD0.out.then HB.out)
      clear g2
      go_loopw [3, 26] (fun s i wr => ∃ k : Nat, k ≤ rl.length ∧ i = .int .i64 k ∧ s = .int .i64 (tipsV (rl.take k)) ∧ Below w1.heap.size w1 wr) (fun _ i _ => rl.length - (intOf i).toNat)
      case atStart => exact ⟨0, Nat.zero_le _, rfl, rfl, Below.refl _ _⟩
      case round =>
        obtain ⟨k, hk, rfl, rfl, hbl⟩ := hrel
        have HB2 := Lib.hid hbl
        clear hbl
        obtain ⟨t1, t2⟩ := HT.out k hk
        by_cases hlt : k < rl.length
        · obtain ⟨b, off, rfl, hb, hc, hcell⟩ := rack_cells (HD1.out.r.below HB2.out) (by dsimp only; omega)
          obtain ⟨c0, c1, c2, c3, c4⟩ := hcell k hlt
          have HS := Lib.hid (HST.out k hlt)
          obtain ⟨m1, m2⟩ := size_mul (H2.out k hlt)
          clear hcell
          dsimp only at *
          generalize rl.getD k KR.dflt = q at *
          generalize tipsV (rl.take k) = t at *
          go_wp2
          go_roundw
          case rel => exact ⟨k + 1, by omega, num_i (by omega), num_i (by rw [HS.out]), Below.al HB2.out _⟩
          case measure => simp [intOf]; omega
        · obtain rfl : k = rl.length := by omega
          rw [List.take_length]
          generalize hs : tipsV rl = t at *
          have HTT := Lib.hid hs
          clear hs
          go_wp2
          go_ret2
          exact ⟨by rw [HSS.out, HTT.out]; rfl, Below.call HB0.out (Below.call HB.out HB2.out)⟩
end Go.Proofs.Ytlgpnjbhmoomfaa
