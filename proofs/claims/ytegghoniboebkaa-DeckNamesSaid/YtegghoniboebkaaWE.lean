/- A text cut at the first sign of one kind. -/
import Derived.Test.YtegghoniboebkaaWD
import Derived.Lib.Strings
import Derived.Lib.Slices
import Derived.Lib.Walk
import Derived.Lib.Bytealg
namespace Go.Proofs.Ytegghoniboebkaa
open Go.RowKit
/-- Where the first sign of one kind stands; -1, if there is none. -/
def idx (l : List UInt8) (c : UInt8) : Int := Lib.indexByte l c
set_option maxHeartbeats 1000000 in
set_option maxRecDepth 100000 in
theorem indexByte_any (s : ByteArray) (l : List UInt8) (hs : IsT s l) (c : UInt8) (w : World) :
    Calls Try.prog 73 #[.string s, .int .u8 (c.toNat : Int)] w fun e w' => e = .returned (.int .i64 (idx l c)) ∧ w = w' := by
  have hl : s.data.toList = l := by rw [hs.eq]
  go_enter Try.func73, Try.ntmps73
  go_wp2
  rw [run_callFunc_extern Try.func77 (by kernel_rfl) (by kernel_rfl) (by kernel_rfl) (e := Extern.BytealgIndexByte.indexByte) (by kernel_rfl), Lib.run_indexByteString]
  simp only [Result.andThen]
  rw [Oper.upon_value]
  go_wp2
  go_ret
  exact ⟨ret_i (by simp [idx]), rfl⟩
set_option maxHeartbeats 2000000 in
set_option maxRecDepth 100000 in
theorem index_any (s : ByteArray) (l : List UInt8) (hs : IsT s l) (c : UInt8) (w : World) :
    Calls Try.prog 78 #[.string s, .string ⟨#[c]⟩] w fun e w' => e = .returned (.int .i64 (idx l c)) ∧ w = w' := by
  have HI := Lib.hid (indexByte_any s l hs c)
  go_enter Try.func78, Try.ntmps78
  go_wp2_with (go_at_call 73; refine (HI.out _).mono ?_; rintro e w' ⟨rfl, rfl⟩)
  · have h : ([c] == s.toList) = true := by assumption
    go_ret
    have e : l = [c] := by rw [← hs.list]; exact (beq_iff_eq.1 h).symm
    refine ⟨ret_i ?_, rfl⟩
    rw [e, idx]
    simp [Lib.indexByte]
  · go_ret
    exact ⟨rfl, rfl⟩
/-- What stands ahead of the first sign of one kind, what behind it, and whether there is one. -/
def cutA (l : List UInt8) (c : UInt8) : List UInt8 := l.takeWhile (fun x => x != c)
def cutB (l : List UInt8) (c : UInt8) : List UInt8 := (l.dropWhile (fun x => x != c)).drop 1
def cutF (l : List UInt8) (c : UInt8) : Bool := l.any (fun x => x == c)
theorem idx_cons (x : UInt8) (l : List UInt8) (c : UInt8) : idx (x :: l) c = if x == c then 0 else if idx l c == -1 then -1 else idx l c + 1 := rfl
theorem idx_spec (l : List UInt8) (c : UInt8) : (idx l c = -1 ∧ cutF l c = false ∧ cutA l c = l ∧ cutB l c = []) ∨ (∃ p : Nat, p < l.length ∧ idx l c = (p : Int) ∧ cutF l c = true ∧ cutA l c = l.take p ∧ cutB l c = l.drop (p + 1)) := by
  induction l with
  | nil => exact .inl ⟨rfl, rfl, rfl, rfl⟩
  | cons x l ih =>
    by_cases hx : x = c
    · subst hx
      exact .inr ⟨0, by simp, by rw [idx_cons]; simp, by simp [cutF], by simp [cutA], by simp [cutB]⟩
    · have hb : (x == c) = false := by (rw [beq_eq_false_iff_ne]; exact hx)
      have hb2 : (x != c) = true := by (rw [bne_iff_ne]; exact hx)
      have f1 : cutF (x :: l) c = cutF l c := by unfold cutF; rw [List.any_cons, hb, Bool.false_or]
      have f2 : cutA (x :: l) c = x :: cutA l c := by unfold cutA; rw [List.takeWhile_cons, if_pos hb2]
      have f3 : cutB (x :: l) c = cutB l c := by unfold cutB; rw [List.dropWhile_cons, if_pos hb2]
      rw [f1, f2, f3, idx_cons, hb]
      rcases ih with ⟨h1, h2, h3, h4⟩ | ⟨p, hp, h1, h2, h3, h4⟩
      · refine .inl ⟨?_, h2, by rw [h3], h4⟩
        rw [h1]
        rfl
      · refine .inr ⟨p + 1, by simp; omega, ?_, h2, by rw [h3]; rfl, by rw [h4]; rfl⟩
        rw [h1, if_neg (by simp), if_neg (by rw [beq_iff_eq]; omega)]
        omega
theorem IsT.takek {s : ByteArray} {l : List UInt8} (h : IsT s l) (k : Nat) : IsT (s.extract 0 k) (l.take k) := by
  constructor
  rw [h.eq, ByteArray.extract_mk, List.drop_zero, Nat.sub_zero]
def Cutted (w : World) (l : List UInt8) (c : UInt8) (e : Ending) (w' : World) : Prop := e = .returned (.tuple #[.string ⟨(cutA l c).toArray⟩, .string ⟨(cutB l c).toArray⟩, .bool (cutF l c)]) ∧ Below w.heap.size w w'
set_option maxHeartbeats 2000000 in
set_option maxRecDepth 100000 in
theorem lcut_any (s : ByteArray) (l : List UInt8) (hs : IsT s l) (hsz : l.length ≤ 9223372036854775807) (c : UInt8) (w : World) :
    Calls Try.prog 75 #[.string s, .string ⟨#[c]⟩] w (Cutted w l c) := by
  have HI := Lib.hid (index_any s l hs c)
  have hz := hs.size
  rcases idx_spec l c with ⟨h1, h2, h3, h4⟩ | ⟨p, hp, h1, h2, h3, h4⟩
  · rw [h1] at HI
    have HR := Lib.hid (show (⟨(cutA l c).toArray⟩ : ByteArray) = s ∧ (⟨(cutB l c).toArray⟩ : ByteArray) = ⟨#[]⟩ ∧ cutF l c = false from ⟨by rw [h3, hs.eq], by rw [h4], h2⟩)
    clear h1 h2 h3 h4 hs hz
    go_enter Try.func75, Try.ntmps75
    go_wp2_with (go_at_call 78; refine (HI.out _).mono ?_; rintro e w' ⟨rfl, rfl⟩)
    go_ret3
    exact ⟨by rw [HR.out.1, HR.out.2.1, HR.out.2.2]; rfl, Below.refl _ _⟩
  · rw [h1] at HI
    have HR := Lib.hid (show (⟨(cutA l c).toArray⟩ : ByteArray) = s.extract 0 p ∧ (⟨(cutB l c).toArray⟩ : ByteArray) = s.extract (p + 1) s.size ∧ cutF l c = true from ⟨by rw [h3, (hs.takek p).eq], by rw [h4, hz, (hs.dropk (p + 1)).eq], h2⟩)
    have i1 : (0 : Int) ≤ (p : Int) := by omega
    have i2 : (p : Int) + 1 ≤ (s.size : Int) := by omega
    have i3 : (p : Int) ≤ (s.size : Int) := by omega
    have i4 : ((p : Int) + 1).toNat = p + 1 := by omega
    have i5 : IntKind.i64.wrap ((p : Int) + 1) = (p : Int) + 1 := by rw [IntKind.wrap_i64]; omega
    have i6 : (0 : Int) ≤ (p : Int) + 1 := by omega
    clear h1 h2 h3 h4 hs hz
    go_enter Try.func75, Try.ntmps75
    go_wp2_with (go_at_call 78; refine (HI.out _).mono ?_; rintro e w' ⟨rfl, rfl⟩)
    go_quiet (fail)
    go_wp2
    go_ret3
    exact ⟨by rw [HR.out.1, HR.out.2.1, HR.out.2.2]; rfl, below_drewN (Below.refl _ _) nq⟩
set_option maxHeartbeats 1000000 in
theorem cut1_any (s : ByteArray) (l : List UInt8) (hs : IsT s l) (hsz : l.length ≤ 9223372036854775807) (c : UInt8) (w : World) :
    Calls Try.prog 68 #[.string s, .string ⟨#[c]⟩] w (Cutted w l c) := by
  have HC := Lib.hid (lcut_any s l hs hsz c)
  go_enter Try.func68, Try.ntmps68
  go_wp2_with fail
  refine (HC.out _).mono ?_
  rintro e w1 ⟨rfl, hb⟩
  have K1 := Lib.hid hb
  clear hb
  go_wp2
  go_ret3
  exact ⟨rfl, K1.out⟩
end Go.Proofs.Ytegghoniboebkaa
