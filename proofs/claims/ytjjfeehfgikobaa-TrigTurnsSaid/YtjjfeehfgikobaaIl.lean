/- Stage 4's statements about the program: the walks over what its trig tells. -/
import Derived.Test.YtjjfeehfgikobaaIk
import Derived.Test.YtjjfeehfgikobaaIg
namespace Go.Proofs.Ytjjfeehfgikobaa
open Go.RowKit

theorem trigC : TrigC := ⟨Table_any, Sin_any, Cos_any, Towards_any⟩
theorem ttable_law (k : Int) (wk : (Lit.int .i64 k).wf = true) (w : World) :
    Calls Try.prog 3 #[.int .i64 k] w fun e w' => e = .returned (.bool true) ∧ Below w.heap.size w w' :=
  ttable_walk trigC k w (bounds_i64 wk).1 (bounds_i64 wk).2
theorem u32_bounds {t : Int} (h : (Lit.int .u32 t).wf = true) : 0 ≤ t ∧ t ≤ 4294967295 := by
  have h0 : IntKind.u32.min = 0 := by decide
  have h1 : IntKind.u32.max = 4294967295 := by decide
  simp [Lit.wf, h0, h1] at h; omega
theorem tsin_law (t : Int) (wt : (Lit.int .u32 t).wf = true) (w : World) :
    Calls Try.prog 4 #[.int .u32 t] w fun e w' => e = .returned (.bool true) ∧ Below w.heap.size w w' :=
  tsin_walk trigC t w (u32_bounds wt).1 (u32_bounds wt).2
theorem ttow_law (x y : Int) (wx : (Lit.int .i64 x).wf = true) (wy : (Lit.int .i64 y).wf = true) (w : World) :
    Calls Try.prog 5 #[.int .i64 x, .int .i64 y] w fun e w' => e = .returned (.bool true) ∧ Below w.heap.size w w' :=
  ttow_walk trigC x y w (bounds_i64 wx).1 (bounds_i64 wx).2 (bounds_i64 wy).1 (bounds_i64 wy).2
theorem tturns_law (t : Int) (wt : (Lit.int .u32 t).wf = true) (w : World) :
    Calls Try.prog 6 #[.int .u32 t] w fun e w' => e = .returned (.bool true) ∧ Below w.heap.size w w' :=
  tturns_walk trigC t w (u32_bounds wt).1 (u32_bounds wt).2
theorem trises_law (a b : Int) (wa : (Lit.int .u32 a).wf = true) (wb : (Lit.int .u32 b).wf = true) (w : World) :
    Calls Try.prog 7 #[.int .u32 a, .int .u32 b] w fun e w' => e = .returned (.bool true) ∧ Below w.heap.size w w' :=
  trises_walk trigC a b w (u32_bounds wa).1 (u32_bounds wa).2 (u32_bounds wb).1 (u32_bounds wb).2
theorem tround_law (t : Int) (wt : (Lit.int .u32 t).wf = true) (w : World) :
    Calls Try.prog 8 #[.int .u32 t] w fun e w' => e = .returned (.bool true) ∧ Below w.heap.size w w' :=
  tround_walk trigC t w (u32_bounds wt).1 (u32_bounds wt).2
theorem tback_law (x y : Int) (wx : (Lit.int .i64 x).wf = true) (wy : (Lit.int .i64 y).wf = true) (w : World) :
    Calls Try.prog 9 #[.int .i64 x, .int .i64 y] w fun e w' => e = .returned (.bool true) ∧ Below w.heap.size w w' :=
  tback_walk trigC x y w (bounds_i64 wx).1 (bounds_i64 wx).2 (bounds_i64 wy).1 (bounds_i64 wy).2
end Go.Proofs.Ytjjfeehfgikobaa
