/- The laws of stage 8, of the program's table. -/
import Derived.Test.YtnedecpciioghaaOn
import Derived.Test.YtnedecpciioghaaOh
namespace Go.Proofs.Ytnedecpciioghaa
open Go.RowKit
set_option linter.unusedVariables false

theorem tright_law (a : Option Addr) (len cap : Nat) (X Y : Nat → Int) (w : World) (D : Dots w a len cap X Y)  :
    Calls Try.prog 3 #[.slice a len cap] w fun e w' => e = .returned (.bool true) ∧ Below w.heap.size w w' := tright_walk tableC a len cap X Y  w  D
theorem teval_law (a : Option Addr) (len cap : Nat) (X Y : Nat → Int) (x : Int) (w : World) (D : Dots w a len cap X Y) (wx : (Lit.int .i64 x).wf = true) :
    Calls Try.prog 4 #[.slice a len cap, .int .i64 x] w fun e w' => e = .returned (.bool true) ∧ Below w.heap.size w w' := teval_walk tableC a len cap X Y x w (bounds_i64 wx) D
theorem tbet_law (a : Option Addr) (len cap : Nat) (X Y : Nat → Int) (x : Int) (w : World) (D : Dots w a len cap X Y) (wx : (Lit.int .i64 x).wf = true) :
    Calls Try.prog 5 #[.slice a len cap, .int .i64 x] w fun e w' => e = .returned (.bool true) ∧ Below w.heap.size w w' := tbet_walk tableC a len cap X Y x w (bounds_i64 wx) D
theorem tblrises_law (a : Option Addr) (len cap : Nat) (X Y : Nat → Int) (p q : Int) (w : World) (D : Dots w a len cap X Y) (wp : (Lit.int .i64 p).wf = true) (wq : (Lit.int .i64 q).wf = true) :
    Calls Try.prog 6 #[.slice a len cap, .int .i64 p, .int .i64 q] w fun e w' => e = .returned (.bool true) ∧ Below w.heap.size w w' := tblrises_walk tableC a len cap X Y p q w (bounds_i64 wp) (bounds_i64 wq) D
theorem tpoints_law (a : Option Addr) (len cap : Nat) (X Y : Nat → Int) (w : World) (D : Dots w a len cap X Y)  :
    Calls Try.prog 7 #[.slice a len cap] w fun e w' => e = .returned (.bool true) ∧ Below w.heap.size w w' := tpoints_walk tableC a len cap X Y  w  D
end Go.Proofs.Ytnedecpciioghaa
