/- The laws of stage 6, of the program's quat. -/
import Derived.Test.YtldcmiomfahaoaaKn
import Derived.Test.YtldcmiomfahaoaaKi
import Derived.Test.YtldcmiomfahaoaaKj
import Derived.Test.YtldcmiomfahaoaaKm
import Derived.OpenShut
namespace Go.Proofs.Ytldcmiomfahaoaa
open Go.RowKit
set_option linter.unusedVariables false

theorem in64_wf {x : Int} (h : (Lit.int .i64 x).wf = true) : In64 x := bounds_i64 h
theorem in4_wf {a b c d : Int} (ha : (Lit.int .i64 a).wf = true) (hb : (Lit.int .i64 b).wf = true) (hc : (Lit.int .i64 c).wf = true) (hd : (Lit.int .i64 d).wf = true) : In4 a b c d := ⟨in64_wf ha, in64_wf hb, in64_wf hc, in64_wf hd⟩
theorem in3_wf6 {a b c : Int} (ha : (Lit.int .i64 a).wf = true) (hb : (Lit.int .i64 b).wf = true) (hc : (Lit.int .i64 c).wf = true) : In3 a b c := in3_of (in64_wf ha) (in64_wf hb) (in64_wf hc)
theorem qmul_law (pw px py pz qw qx qy qz : Int) (wpw : (Lit.int .i64 pw).wf = true) (wpx : (Lit.int .i64 px).wf = true) (wpy : (Lit.int .i64 py).wf = true) (wpz : (Lit.int .i64 pz).wf = true) (wqw : (Lit.int .i64 qw).wf = true) (wqx : (Lit.int .i64 qx).wf = true) (wqy : (Lit.int .i64 qy).wf = true) (wqz : (Lit.int .i64 qz).wf = true) (w : World) :
    Calls Try.prog 3 #[.agg #[.int .i64 pw, .int .i64 px, .int .i64 py, .int .i64 pz], .agg #[.int .i64 qw, .int .i64 qx, .int .i64 qy, .int .i64 qz]] w fun e w' => e = .returned (.bool true) ∧ Below w.heap.size w w' :=
  qmul_walk quatC pw px py pz qw qx qy qz w (in4_wf wpw wpx wpy wpz) (in4_wf wqw wqx wqy wqz)
theorem qunit_law (qw qx qy qz : Int) (wqw : (Lit.int .i64 qw).wf = true) (wqx : (Lit.int .i64 qx).wf = true) (wqy : (Lit.int .i64 qy).wf = true) (wqz : (Lit.int .i64 qz).wf = true) (w : World) :
    Calls Try.prog 4 #[.agg #[.int .i64 qw, .int .i64 qx, .int .i64 qy, .int .i64 qz]] w fun e w' => e = .returned (.bool true) ∧ Below w.heap.size w w' :=
  qunit_walk quatC qw qx qy qz w (in4_wf wqw wqx wqy wqz)
theorem qturns_law (qw qx qy qz x y z : Int) (wqw : (Lit.int .i64 qw).wf = true) (wqx : (Lit.int .i64 qx).wf = true) (wqy : (Lit.int .i64 qy).wf = true) (wqz : (Lit.int .i64 qz).wf = true) (wx : (Lit.int .i64 x).wf = true) (wy : (Lit.int .i64 y).wf = true) (wz : (Lit.int .i64 z).wf = true) (w : World) :
    Calls Try.prog 5 #[.agg #[.int .i64 qw, .int .i64 qx, .int .i64 qy, .int .i64 qz], .agg #[.int .i64 x, .int .i64 y, .int .i64 z]] w fun e w' => e = .returned (.bool true) ∧ Below w.heap.size w w' :=
  qturns_walk quatC qw qx qy qz x y z w (in4_wf wqw wqx wqy wqz) (in3_wf6 wx wy wz)
theorem qstep_law (qw qx qy qz x y z s0 s1 : Int) (wqw : (Lit.int .i64 qw).wf = true) (wqx : (Lit.int .i64 qx).wf = true) (wqy : (Lit.int .i64 qy).wf = true) (wqz : (Lit.int .i64 qz).wf = true) (wx : (Lit.int .i64 x).wf = true) (wy : (Lit.int .i64 y).wf = true) (wz : (Lit.int .i64 z).wf = true) (ws0 : (Lit.int .i64 s0).wf = true) (ws1 : (Lit.int .i64 s1).wf = true) (w : World) :
    Calls Try.prog 6 #[.agg #[.int .i64 qw, .int .i64 qx, .int .i64 qy, .int .i64 qz], .agg #[.int .i64 x, .int .i64 y, .int .i64 z], .agg #[.int .i64 s0, .int .i64 s1]] w fun e w' => e = .returned (.bool true) ∧ Below w.heap.size w w' :=
  qstep_walk quatC qw qx qy qz x y z s0 s1 w (in4_wf wqw wqx wqy wqz) (in3_wf6 wx wy wz) (in64_wf ws0) (in64_wf ws1)
theorem qkeeps_law (qw qx qy qz x y z : Int) (wqw : (Lit.int .i64 qw).wf = true) (wqx : (Lit.int .i64 qx).wf = true) (wqy : (Lit.int .i64 qy).wf = true) (wqz : (Lit.int .i64 qz).wf = true) (wx : (Lit.int .i64 x).wf = true) (wy : (Lit.int .i64 y).wf = true) (wz : (Lit.int .i64 z).wf = true) (w : World) :
    Calls Try.prog 7 #[.agg #[.int .i64 qw, .int .i64 qx, .int .i64 qy, .int .i64 qz], .agg #[.int .i64 x, .int .i64 y, .int .i64 z]] w fun e w' => e = .returned (.bool true) ∧ Below w.heap.size w w' :=
  qkeeps_walk quatC qw qx qy qz x y z w (in4_wf wqw wqx wqy wqz) (in3_wf6 wx wy wz)
theorem qback_law (qw qx qy qz x y z : Int) (wqw : (Lit.int .i64 qw).wf = true) (wqx : (Lit.int .i64 qx).wf = true) (wqy : (Lit.int .i64 qy).wf = true) (wqz : (Lit.int .i64 qz).wf = true) (wx : (Lit.int .i64 x).wf = true) (wy : (Lit.int .i64 y).wf = true) (wz : (Lit.int .i64 z).wf = true) (w : World) :
    Calls Try.prog 8 #[.agg #[.int .i64 qw, .int .i64 qx, .int .i64 qy, .int .i64 qz], .agg #[.int .i64 x, .int .i64 y, .int .i64 z]] w fun e w' => e = .returned (.bool true) ∧ Below w.heap.size w w' :=
  qback_walk quatC qw qx qy qz x y z w (in4_wf wqw wqx wqy wqz) (in3_wf6 wx wy wz)
end Go.Proofs.Ytldcmiomfahaoaa
