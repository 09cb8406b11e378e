/- Two numbers of two words compared. -/
import Derived.Test.YtjpojidpmmodnaaPA
import Derived.Laws.StructEq
namespace Go.Proofs.Ytjpojidpmmodnaa
open Go.RowKit

theorem run_eq2 (w : World) (a b c d : Int) : (Op.equalIn 10000 43 (.agg #[.int .u64 a, .int .u64 b]) (.agg #[.int .u64 c, .int .u64 d])).run Try.prog w = .ok (a == c && b == d) w := by
  have hs : (sizeOf 41).run Try.prog w = .ok 1 w := by kernel_rfl
  show (Op.equalIn (9999 + 1) 43 (.agg #[.int .u64 a, .int .u64 b]) (.agg #[.int .u64 c, .int .u64 d])).run Try.prog w = _
  have p0 : ∀ x y : Value, (part 41 #[x, y] 0).run Try.prog w = .ok x w := fun x y => by kernel_rfl
  have p1 : ∀ x y : Value, (part 41 #[x, y] 1).run Try.prog w = .ok y w := fun x y => by kernel_rfl
  have q : ∀ x y : Int, (Op.equalIn 9999 41 (.int .u64 x) (.int .u64 y)).run Try.prog w = .ok (x == y) w := fun x y => run_equalIn_int w 9998 41 .u64 .u64 x y Try.underlying41
  rw [Op.equalIn]
  simp only [Sem.run_bind, run_underlying Try.underlying43, Result.andThen_ok, hs]
  rw [Std.Legacy.Range.forIn_eq_forIn_range']
  simp only [Std.Legacy.Range.size, List.range', Nat.sub_zero, Nat.add_sub_cancel, Nat.div_one, List.forIn_cons, List.forIn_nil, Sem.run_bind, p0, q, Nat.zero_mul, Result.andThen_ok]
  by_cases h1 : a = c
  · by_cases h2 : b = d
    · subst h1; subst h2; simp [Sem.run_bind, Sem.run_pure, p1, q, Result.andThen]
    · subst h1; simp [h2, Sem.run_bind, Sem.run_pure, p1, q, Result.andThen]
  · simp [h1, Sem.run_pure, Result.andThen]
end Go.Proofs.Ytjpojidpmmodnaa
