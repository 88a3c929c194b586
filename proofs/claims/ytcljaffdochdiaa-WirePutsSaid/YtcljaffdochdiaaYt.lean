/- The laws of stage 10, of the program's wire. -/
import Derived.Test.YtcljaffdochdiaaY1
import Derived.Test.YtcljaffdochdiaaYr
namespace Go.Proofs.Ytcljaffdochdiaa
open Go.RowKit
set_option linter.unusedVariables false

theorem wputs_law (a : Option Addr) (len cap : Nat) (f : Nat → OpI) (w : World) (D : OpsM w a len cap f) :
    Calls Try.prog 3 #[.slice a len cap] w fun e w' => e = .returned (.bool true) ∧ Below w.heap.size w w' := wputs_walk outT wireO a len cap f w D
theorem wback_law (a : Option Addr) (len cap : Nat) (f : Nat → OpI) (w : World) (D : OpsM w a len cap f) :
    Calls Try.prog 4 #[.slice a len cap] w fun e w' => e = .returned (.bool true) ∧ Below w.heap.size w w' := wback_walk outT wireO inT wireI a len cap f w D
theorem wown_law (n : Int) (a : Option Addr) (m c : Nat) (zs : List Int) (w : World) (wn : (Lit.int .i64 n).wf = true) (J : Ints w .u8 a m c zs) :
    Calls Try.prog 5 #[.int .i64 n, .slice a m c] w fun e w' => e = .returned (.bool true) ∧ Below w.heap.size w w' := wown_walk outT wireO inT wireI n a m c zs w (bounds_i64 wn) (bl_ints J) J.hl J.hm
end Go.Proofs.Ytcljaffdochdiaa
