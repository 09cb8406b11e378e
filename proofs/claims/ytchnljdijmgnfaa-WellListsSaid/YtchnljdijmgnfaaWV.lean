/- The reference's places that a text names; the law on lists. -/
import Derived.Test.YtchnljdijmgnfaaWU
import Derived.Test.YtchnljdijmgnfaaWN
import Derived.Test.YtchnljdijmgnfaaQS
namespace Go.Proofs.Ytchnljdijmgnfaa
open Go.RowKit
theorem pieceV_len (l : List UInt8) : (pieceV l).length ≤ 1536 := by
  unfold pieceV
  cases h : endsL l with
  | none => simp
  | some ft =>
    obtain ⟨f, t⟩ := ft
    have hb := ends_right _ _ _ h
    simp only
    have h1 := rect_len f t hb.2.1 (by omega)
    have h2 := area_le f.1 f.2 t.1 t.2 (by omega) (by omega) (by omega) (by omega) (by omega) (by omega)
    omega
theorem refGo_bad (p : List UInt8) (ps : List (List UInt8)) (i : Nat) (m : List (Int × Int)) (h : endsE p ≠ 0) : refGo (p :: ps) i m = ([], 60, (i : Int)) ∧ endsE p = 60 := by
  unfold endsE at h ⊢
  rw [refGo]
  cases he : endsL p with
  | none => exact ⟨rfl, rfl⟩
  | some ft => rw [he] at h; exact absurd rfl h
theorem refGo_good (p : List UInt8) (ps : List (List UInt8)) (i : Nat) (m : List (Int × Int)) (h : endsE p = 0) : refGo (p :: ps) i m = if 384 < ((m ++ pieceV p).length : Int) then ([], 2, (i : Int)) else refGo ps (i + 1) (m ++ pieceV p) := by
  unfold endsE at h
  rw [refGo, pieceV]
  cases he : endsL p with
  | none => rw [he] at h; exact absurd h (by decide)
  | some ft => rfl
theorem drop_get (ps : List (List UInt8)) (k : Nat) (h : k < ps.length) : ps.drop k = ps.getD k [] :: ps.drop (k + 1) := by
  rw [List.drop_eq_getElem_cons h, List.getD_eq_getElem?_getD, List.getElem?_eq_getElem h]
  rfl
set_option maxRecDepth 100000 in
set_option maxHeartbeats 4000000 in
theorem rlist_any (s : ByteArray) (l : List UInt8) (hs : IsT s l) (hsz : l.length ≤ 100000) (w : World) : Calls Try.prog 34 #[.string s] w (ListR w (listV l)) := by
  have HC := Lib.hid (rpieces_any s l hs hsz 44)
  by_cases hl0 : l = []
  · subst hl0
    obtain rfl := hs.eq
    go_enter Try.func34, Try.ntmps34
    go_wp2
    go_ret3
    exact ⟨_, rfl, Pl.Own.nil _ _, Below.refl _ _⟩
  · obtain ⟨ps, hps⟩ : ∃ ps, ps = pieces 44 l := ⟨_, rfl⟩
    have hv := listV_ref l hl0
    rw [← hps] at HC hv
    have hplen : ps.length ≤ 100001 := by rw [hps]; have := pieces_len 44 l; omega
    have hmem : ∀ p ∈ ps, p.length ≤ 100000 := fun p hp => by rw [hps] at hp; have := pieces_mem 44 l p hp; omega
    have HM := Lib.hid hmem
    obtain ⟨R, hR⟩ : ∃ R, R = listV l := ⟨_, rfl⟩
    rw [← hR] at hv ⊢
    have HV := Lib.hid hv
    have hemp2 : (l == []) = false := by rw [beq_eq_false_iff_ne]; exact hl0
    obtain rfl := hs.eq
    clear hv hR hps hmem hs
    go_enter Try.func34, Try.ntmps34
    go_wp2_with fail
    refine (HC.out _).mono ?_
    rintro e w1 ⟨v1, rfl, hown, hb1⟩
    have HL := Lib.hid (hown.isL (by omega))
    obtain ⟨⟨A, cap, rfl, hcap, _⟩, _, _⟩ := HL.out
    have HB1 := Lib.hid hb1
    have hl3 : (ps.length : Int) ≤ 100001 := by omega
    clear hown hb1
    go_wp2
    go_loopw [5, 7] (fun v i wr => ∃ (m : List (Int × Int)) (k : Nat), i = .int .i64 (k : Int) ∧ k ≤ ps.length ∧ refGo (ps.drop k) k m = R ∧ m.length ≤ 384 ∧ Pl.Own wr w1.heap.size v m ∧ Below w1.heap.size w1 wr) (fun _ i _ => ps.length - (intOf i).toNat)
    case atStart => exact ⟨[], 0, rfl, Nat.zero_le _, by rw [HV.out]; rfl, by simp, Pl.Own.nil _ _, Below.refl _ _⟩
    case round =>
      obtain ⟨m, k, rfl, hk, hgo, hm, hown, hbl⟩ := hrel
      have HGO := Lib.hid hgo
      have HO := Lib.hid hown
      have HBL := Lib.hid hbl
      have HB := Lib.hid (HB1.out.trans (hbl.mono HB1.out.size))
      have HMM := Lib.hid hm
      clear hgo hown hbl hm
      by_cases hlt : k < ps.length
      · obtain ⟨⟨A', cap', hv, _, hcell⟩, _, _⟩ := HL.out.below HBL.out
        obtain ⟨b, off, rfl, hbB, hcell⟩ := hcell (by omega)
        obtain ⟨rfl, _, rfl⟩ : A = some ⟨b, off, none⟩ ∧ ps.length = ps.length ∧ cap = cap' := by injection hv with x y z; exact ⟨x, y, z⟩
        have q0 : wr.cell? ⟨b, off + k, none⟩ = some (.string ⟨(ps.getD k []).toArray⟩) := by
          have := hcell k hlt 0 (.string ⟨(ps.getD k []).toArray⟩) rfl
          simpa [Ks] using this
        have HDG := Lib.hid (drop_get ps k hlt)
        have hpm : (ps.getD k []).length ≤ 100000 := HM.out _ (by
          rw [List.getD_eq_getElem?_getD, List.getElem?_eq_getElem hlt]
          exact List.getElem_mem hlt)
        have HP := Lib.hid (rpiece_any ⟨(ps.getD k []).toArray⟩ (ps.getD k []) ⟨rfl⟩ hpm)
        have HPL := Lib.hid (pieceV_len (ps.getD k []))
        have hgo := HGO.out
        rw [HDG.out] at hgo
        clear hcell hv HDG hpm
        generalize ps.getD k [] = p at *
        by_cases he : endsE p = 0
        · rw [refGo_good p _ k m he] at hgo
          rw [he] at HP
          by_cases hbig : 384 < ((m ++ pieceV p).length : Int)
          · rw [if_pos hbig] at hgo
            have HG := Lib.hid hgo
            clear hgo
            go_wp2_with fail
            refine (HP.out _).mono ?_
            rintro e w2 ⟨v2, rfl, hown2, hb2⟩
            have HO2 := Lib.hid (hown2.isL (by have := HPL.out; omega))
            have HOM := Lib.hid (HO.out.below hb2)
            have HB2 := Lib.hid (Below.call HBL.out hb2)
            clear hown2 hb2
            go_wp2_with (at_builtin; refine Pl.wpList_app _ rfl _ _ rfl w1.heap.size w2.heap.size _ _ m (pieceV p) rfl rfl HOM.out HO2.out ?c1 ?c2 ?_)
            case c1 => have := HPL.out; have := HMM.out; omega
            case c2 => exact HB2.out.size
            intro v4 w4 hown4 hg4 hv4
            have HB4 := Lib.hid (HOM.out.grow' HB2.out HB2.out.size hg4)
            obtain ⟨⟨A4, cap4, rfl, _, _⟩, _, _⟩ := hown4.isL (by rw [List.length_append]; have := HPL.out; have := HMM.out; omega)
            clear hown4 hg4 hv4
            have hd : decide (384 < (m.length : Int) + ((pieceV p).length : Int)) = true := decide_eq_true (by rw [List.length_append] at hbig; omega)
            go_wp2
            go_ret3
            rw [← HG.out]
            exact ⟨_, rfl, Pl.Own.nil _ _, HB1.out.trans (HB4.out.mono HB1.out.size)⟩
          · rw [if_neg hbig] at hgo
            have HG := Lib.hid hgo
            clear hgo
            go_wp2_with fail
            refine (HP.out _).mono ?_
            rintro e w2 ⟨v2, rfl, hown2, hb2⟩
            have HO2 := Lib.hid (hown2.isL (by have := HPL.out; omega))
            have HOM := Lib.hid (HO.out.below hb2)
            have HB2 := Lib.hid (Below.call HBL.out hb2)
            clear hown2 hb2
            go_wp2_with (at_builtin; refine Pl.wpList_app _ rfl _ _ rfl w1.heap.size w2.heap.size _ _ m (pieceV p) rfl rfl HOM.out HO2.out ?c1 ?c2 ?_)
            case c1 => have := HPL.out; have := HMM.out; omega
            case c2 => exact HB2.out.size
            intro v4 w4 hown4 hg4 hv4
            have HB4 := Lib.hid (HOM.out.grow' HB2.out HB2.out.size hg4)
            have HO4 := Lib.hid hown4
            obtain ⟨⟨A4, cap4, rfl, _, _⟩, _, _⟩ := hown4.isL (by rw [List.length_append]; have := HPL.out; have := HMM.out; omega)
            have hd : decide (384 < (m.length : Int) + ((pieceV p).length : Int)) = false := decide_eq_false (by rw [List.length_append] at hbig; omega)
            have HBG := Lib.hid hbig
            clear hown4 hv4 hbig
            go_wp2
            go_roundw
            case rel => exact ⟨m ++ pieceV p, k + 1, num_i (by omega), by omega, HG.out, by have := HBG.out; omega, HO4.out, HB4.out⟩
            case measure => simp [intOf]; omega
        · obtain ⟨g1, g2⟩ := refGo_bad p (ps.drop (k + 1)) k m he
          rw [g1] at hgo
          rw [g2] at HP
          have HG := Lib.hid hgo
          clear hgo g1 g2 he
          go_wp2_with fail
          refine (HP.out _).mono ?_
          rintro e w2 ⟨v2, rfl, _, hb2⟩
          have HB2 := Lib.hid (Below.call HB.out hb2)
          clear hb2
          go_wp2
          go_ret3
          rw [← HG.out]
          exact ⟨_, rfl, Pl.Own.nil _ _, HB2.out⟩
      · obtain rfl : k = ps.length := by omega
        have HR := Lib.hid (show R = (m, 0, 0) by rw [← HGO.out, List.drop_length]; rfl)
        go_wp2
        go_ret3
        rw [HR.out]
        exact ⟨_, rfl, HO.out.mono HB1.out.size, HB.out⟩
end Go.Proofs.Ytchnljdijmgnfaa
