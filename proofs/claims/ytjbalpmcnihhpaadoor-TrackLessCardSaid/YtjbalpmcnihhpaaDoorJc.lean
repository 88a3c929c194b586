/- Contracts of the document's vec: Neg, Along, Len, Unit, Clamp. -/
import Derived.Test.YtjbalpmcnihhpaaDoorBj
import Derived.Test.YtjbalpmcnihhpaaDoorBr
namespace Go.Proofs.YtjbalpmcnihhpaaDoor
open Go.RowKit
set_option linter.unusedVariables false
set_option linter.unusedSimpArgs false

theorem in3_zero : In3 0 0 0 := ⟨by omega, by omega, by omega, by omega, by omega, by omega⟩
theorem in3_sub (a1 a2 a3 b1 b2 b3 : Int) : In3 (subF a1 b1) (subF a2 b2) (subF a3 b3) :=
  ⟨(subF_in _ _).1, (subF_in _ _).2, (subF_in _ _).1, (subF_in _ _).2, (subF_in _ _).1, (subF_in _ _).2⟩
theorem in3_mul (a1 a2 a3 b1 b2 b3 : Int) : In3 (mulF a1 b1) (mulF a2 b2) (mulF a3 b3) :=
  ⟨(mulF_in _ _).1, (mulF_in _ _).2, (mulF_in _ _).1, (mulF_in _ _).2, (mulF_in _ _).1, (mulF_in _ _).2⟩
theorem dotF_in (a1 a2 a3 b1 b2 b3 : Int) : In64 (dotF a1 a2 a3 b1 b2 b3) := addF_in _ _
/-- a direction and whether there is one, by the length n -/
theorem un3_agg (x y z n : Int) : (if n = 0 then Value.tuple #[.int .i64 0, .int .i64 0, .int .i64 0, .bool false] else .tuple #[.int .i64 (divF x n), .int .i64 (divF y n), .int .i64 (divF z n), .bool true]) = .tuple #[.int .i64 (if n = 0 then 0 else divF x n), .int .i64 (if n = 0 then 0 else divF y n), .int .i64 (if n = 0 then 0 else divF z n), .bool (!decide (n = 0))] := by
  by_cases c : n = 0
  · simp [c]
  · simp [c]
end Go.Proofs.YtjbalpmcnihhpaaDoor
