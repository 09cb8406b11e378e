/- The program's Sort: the floats of a list in their order, in a row of the call's own. -/
import Derived.Test.YtdnifilmckialaaDoorWN
import Derived.Deep.OwnRows
namespace Go.Proofs.YtdnifilmckialaaDoor
open Go.RowKit
theorem info22 : (Tryd.prog.info? 22).map (fun i => (i.zero, i.size, i.bytes)) = some (some (.float .f64 0), 1, 8) := by kernel_rfl
theorem made_zero (n : Nat) : madeCells #[Value.float .f64 0] n = (flv (List.replicate n 0)).toArray := by
  apply Array.ext
  · simp [size_madeCells, flv]
  · intro i h1 h2
    have hi : i < n := by simpa [size_madeCells] using h1
    simp only [madeCells, Array.getElem_map, Array.getElem_range, flv, List.map_replicate, List.getElem_toArray, List.getElem_replicate]
    have e : i % (#[Value.float .f64 0] : Array Value).size = 0 := Nat.mod_one i
    rw [e]
    rfl

/-- Two rows of noughts laid: what holds of them. -/
theorem two_rows (w : World) (n : Nat) : let w2 := ((w.alloc (Obj.cells (madeCells #[Value.float .f64 0] n) 22)).alloc (Obj.cells (madeCells #[Value.float .f64 0] n) 22)).drew
    Row w2 w.heap.size (List.replicate n 0) ∧ Row w2 (w.heap.size + 1) (List.replicate n 0) ∧ Below w.heap.size w w2 := by
  have e1 : (w.alloc (Obj.cells (madeCells #[Value.float .f64 0] n) 22)).heap.size = w.heap.size + 1 := by simp
  refine ⟨?_, ?_, ?_⟩
  · show ((w.alloc (Obj.cells (madeCells #[Value.float .f64 0] n) 22)).alloc (Obj.cells (madeCells #[Value.float .f64 0] n) 22)).heap[w.heap.size]? = _
    rw [Below.heap_alloc _ _ _ (by omega), heap_alloc_new, made_zero]
  · show ((w.alloc (Obj.cells (madeCells #[Value.float .f64 0] n) 22)).alloc (Obj.cells (madeCells #[Value.float .f64 0] n) 22)).heap[w.heap.size + 1]? = _
    rw [← e1, heap_alloc_new, made_zero]
  · exact (((Below.refl _ _).alloc (Nat.le_refl _) _).alloc (by rw [e1]; omega) _).drew
theorem Only.below {T B : Nat} {w w' : World} (h : Only T w w') (hB : B ≤ T) : Below B w w' := ⟨h.os, h.tape, h.output, by rw [h.size]; exact Nat.le_refl _, fun k hk => h.block k (by omega)⟩

/-- What holds at the head of each round of Sort's loop. -/
def SLoop (n : Nat) (xs : List Nat) (w : World) (a b c : Value) (wr : World) : Prop :=
  ∃ (F T W : Nat) (cur oth : List Nat), a = .slice (some ⟨F, 0, none⟩) n n ∧ b = .slice (some ⟨T, 0, none⟩) n n ∧ c = .int .i64 W ∧ F ≠ T ∧ w.heap.size ≤ F ∧ w.heap.size ≤ T ∧ Row wr F cur ∧ Row wr T oth ∧ cur.length = n ∧ oth.length = n ∧ cur.Perm xs ∧ BS W cur ∧ 1 ≤ W ∧ W ≤ 2 * n ∧ Below w.heap.size w wr
theorem SLoop.of {n : Nat} {xs : List Nat} {w : World} {a b c : Value} {wr : World} (F T W : Nat) (cur oth : List Nat) (h : a = .slice (some ⟨F, 0, none⟩) n n ∧ b = .slice (some ⟨T, 0, none⟩) n n ∧ c = .int .i64 W ∧ F ≠ T ∧ w.heap.size ≤ F ∧ w.heap.size ≤ T ∧ Row wr F cur ∧ Row wr T oth ∧ cur.length = n ∧ oth.length = n ∧ cur.Perm xs ∧ BS W cur ∧ 1 ≤ W ∧ W ≤ 2 * n ∧ Below w.heap.size w wr) : SLoop n xs w a b c wr := ⟨F, T, W, cur, oth, h⟩

set_option maxRecDepth 1000000 in
set_option maxHeartbeats 4000000 in
theorem sort_any (b off n cap : Nat) (xs : List Nat) (hx : xs.length = n) (hn : n ≤ 1000000) (hn0 : 0 < n) (hlt : ∀ x ∈ xs, x < 18446744073709551616) (w : World) (hc : Cells w b off xs) (hb : b < w.heap.size) :
    Calls Tryd.prog 25 #[.slice (some ⟨b, off, none⟩) n cap] w fun e w' => ∃ G zs, e = .returned (.slice (some ⟨G, 0, none⟩) n n) ∧ zs.Perm xs ∧ Srt zs ∧ Row w' G zs ∧ Below w.heap.size w w' := by
  have hmk := fun w => run_make_row' (P := Tryd.prog) 39 22 (.float .f64 0) 8 Tryd.underlying39 info22 rfl .i64 .i64 n (by omega) (by omega) w
  obtain ⟨r1, r2, r3⟩ := two_rows w n
  have HX := Lib.hid hx
  have HLT := Lib.hid hlt
  have R1 := Lib.hid r1
  have R2 := Lib.hid r2
  have R3 := Lib.hid r3
  have HC := Lib.hid hc
  have HBB := Lib.hid hb
  clear hx hlt r1 r2 r3 hc hb
  have hcc : ∀ wx : World, Below w.heap.size w wx → 0 < xs.length → ∃ ad, (some (⟨b, off, none⟩ : Addr)) = some ad ∧ ∀ j, j < xs.length → wx.cell? (ad.add j) = some (.float .f64 (xs.getD j 0)) := fun wx hbl _ =>
    ⟨_, rfl, fun j hj => by rw [Go.WideShapes.add_plain]; exact (hbl.cell (p := ⟨b, off + j, none⟩) HBB.out).trans (HC.out j hj)⟩
  have HCC := Lib.hid hcc
  clear hcc
  go_enter Tryd.func25, Tryd.ntmps25
  go_wp2
  go_region
  · go_wp2_with (refine copy_only rfl _ _ 39 39 rfl 22 Tryd.underlying39 (by kernel_rfl) _ _ _ _ _ _ rfl rfl w.heap.size 0 (List.replicate n 0) xs R1.out ?c1 ?c2 ?c3 ?_)
    case c1 =>
      show xs.length = min n n
      rw [HX.out]
      omega
    case c2 =>
      intro hpos
      obtain ⟨ad, h1, h2⟩ := HCC.out _ R3.out hpos
      cases h1
      first | exact h2 | simpa using h2 | (intro j hj; have e := h2 j hj; simpa [Go.WideShapes.add_plain] using e)
    case c3 => rw [HX.out]; simp
    · intro w1 hrow honly
      have hF := hrow.out
      simp only [HX.out, Nat.sub_self, List.replicate_zero, List.append_nil] at hF
      have hT := Row.other R2.out honly.out (by omega)
      have hbl := R3.out.trans (honly.out.below (by omega))
      have KF := Lib.hid hF
      have KT := Lib.hid hT
      have KB := Lib.hid hbl
      clear hrow honly hF hT hbl
      go_wp2
      go_loopw [3, 4, 5] (fun a b c wr => SLoop n xs w a b c wr) (fun _ _ c _ => 2 * n - (intOf c).toNat)
      case atStart => exact SLoop.of w.heap.size (w.heap.size + 1) 1 xs (List.replicate n 0) ⟨rfl, rfl, rfl, by omega, by omega, by omega, KF.out, KT.out, HX.out, by simp, List.Perm.refl _, bs_one xs, by omega, by omega, KB.out⟩
      case round =>
        unfold SLoop at hrel
        obtain ⟨F, T, W, cur, oth, rfl, rfl, rfl, hne, hF, hT, hRF, hRT, hcl, hol, hp, hbs, hW1, hW2, hbl⟩ := hrel
        have KN := Lib.hid hne
        have K1 := Lib.hid hF
        have K2 := Lib.hid hT
        have KF := Lib.hid hRF
        have KT := Lib.hid hRT
        have KC := Lib.hid hcl
        have KO := Lib.hid hol
        have KP := Lib.hid hp
        have KS := Lib.hid hbs
        have KB := Lib.hid hbl
        clear hne hF hT hRF hRT hcl hol hp hbs hbl
        by_cases hlt : W < n
        · go_wp2_with fail
          refine (mp_any F T n W KN.out cur oth KC.out KO.out (by omega) hW1 hlt (fun x hx => HLT.out x (KP.out.subset hx)) _ KF.out KT.out).mono ?_
          rintro e w2 ⟨rfl, hRF2, ⟨j, hj, hRT2⟩, ho2⟩
          have M1 := Lib.hid hRF2
          have M2 := Lib.hid hRT2
          have M3 := Lib.hid ho2
          have M4 := Lib.hid hj
          clear hRF2 hRT2 ho2 hj
          go_wp2
          go_roundw
          case rel =>
            have e1 := KC.out
            have hpd : (dn W j cur).Perm cur := dn_all W cur j (by rw [KC.out]; exact M4.out)
            exact SLoop.of T F (2 * W) (dn W j cur) cur ⟨rfl, rfl, num_i (by omega), fun h => KN.out h.symm, K2.out, K1.out, M2.out, M1.out, by rw [hpd.length_eq]; exact e1, e1, hpd.trans KP.out, dn_bs W cur KS.out j, by omega, by omega, KB.out.trans (M3.out.below K2.out)⟩
          case measure => simp [intOf]; omega
        · go_wp2
          go_ret
          have h1 := bs_end W cur KS.out (by rw [KC.out]; omega)
          exact ⟨F, cur, rfl, KP.out, h1, KF.out, KB.out⟩
  · go_wp2_with (refine copy_only rfl _ _ 39 39 rfl 22 Tryd.underlying39 (by kernel_rfl) _ _ _ _ _ _ rfl rfl (w.heap.size + 1) 0 (List.replicate n 0) xs R2.out ?d1 ?d2 ?d3 ?_)
    case d1 =>
      show xs.length = min n n
      rw [HX.out]
      omega
    case d2 =>
      intro hpos
      obtain ⟨ad, h1, h2⟩ := HCC.out _ R3.out hpos
      cases h1
      first | exact h2 | simpa using h2 | (intro j hj; have e := h2 j hj; simpa [Go.WideShapes.add_plain] using e)
    case d3 => rw [HX.out]; simp
    · intro w1 hrow honly
      have hF := hrow.out
      simp only [HX.out, Nat.sub_self, List.replicate_zero, List.append_nil] at hF
      have hT := Row.other R1.out honly.out (by omega)
      have hbl := R3.out.trans (honly.out.below (by omega))
      have KF := Lib.hid hF
      have KT := Lib.hid hT
      have KB := Lib.hid hbl
      clear hrow honly hF hT hbl
      go_wp2
      go_loopw [3, 4, 5] (fun a b c wr => SLoop n xs w a b c wr) (fun _ _ c _ => 2 * n - (intOf c).toNat)
      case atStart => exact SLoop.of (w.heap.size + 1) w.heap.size 1 xs (List.replicate n 0) ⟨rfl, rfl, rfl, by omega, by omega, by omega, KF.out, KT.out, HX.out, by simp, List.Perm.refl _, bs_one xs, by omega, by omega, KB.out⟩
      case round =>
        unfold SLoop at hrel
        obtain ⟨F, T, W, cur, oth, rfl, rfl, rfl, hne, hF, hT, hRF, hRT, hcl, hol, hp, hbs, hW1, hW2, hbl⟩ := hrel
        have KN := Lib.hid hne
        have K1 := Lib.hid hF
        have K2 := Lib.hid hT
        have KF := Lib.hid hRF
        have KT := Lib.hid hRT
        have KC := Lib.hid hcl
        have KO := Lib.hid hol
        have KP := Lib.hid hp
        have KS := Lib.hid hbs
        have KB := Lib.hid hbl
        clear hne hF hT hRF hRT hcl hol hp hbs hbl
        by_cases hlt : W < n
        · go_wp2_with fail
          refine (mp_any F T n W KN.out cur oth KC.out KO.out (by omega) hW1 hlt (fun x hx => HLT.out x (KP.out.subset hx)) _ KF.out KT.out).mono ?_
          rintro e w2 ⟨rfl, hRF2, ⟨j, hj, hRT2⟩, ho2⟩
          have M1 := Lib.hid hRF2
          have M2 := Lib.hid hRT2
          have M3 := Lib.hid ho2
          have M4 := Lib.hid hj
          clear hRF2 hRT2 ho2 hj
          go_wp2
          go_roundw
          case rel =>
            have e1 := KC.out
            have hpd : (dn W j cur).Perm cur := dn_all W cur j (by rw [KC.out]; exact M4.out)
            exact SLoop.of T F (2 * W) (dn W j cur) cur ⟨rfl, rfl, num_i (by omega), fun h => KN.out h.symm, K2.out, K1.out, M2.out, M1.out, by rw [hpd.length_eq]; exact e1, e1, hpd.trans KP.out, dn_bs W cur KS.out j, by omega, by omega, KB.out.trans (M3.out.below K2.out)⟩
          case measure => simp [intOf]; omega
        · go_wp2
          go_ret
          have h1 := bs_end W cur KS.out (by rw [KC.out]; omega)
          exact ⟨F, cur, rfl, KP.out, h1, KF.out, KB.out⟩
end Go.Proofs.YtdnifilmckialaaDoor
