/- Contracts of the document's table: in, Right, Cell, Bound. -/
import Derived.Test.YtbggakbjppnchaaOa
import Derived.Test.YtbggakbjppnchaaOb
import Derived.Test.YtbggakbjppnchaaKy
namespace Go.Proofs.Ytbggakbjppnchaa
open Go.RowKit
set_option linter.unusedVariables false
set_option linter.unusedSimpArgs false

set_option maxHeartbeats 4000000 in
theorem rTCell_any (a : Option Addr) (len cap : Nat) (X Y : Nat → Int) (x : Int) (w : World) (hmax : len ≤ 100) (D : Dots w a len cap X Y) :
    Calls Try.prog 45 #[.slice a len cap, .int .i64 x] w fun e w' => e = .returned (.int .i64 (cellUp X x (len - 1))) ∧ w' = w := by
  have HD := Lib.hid D
  clear D
  go_enter Try.func45, Try.ntmps45
  go_wp2
  go_loopw [5, 6] (fun v i wr => ∃ j : Nat, j ≤ len - 1 ∧ i = .int .i64 j ∧ v = .int .i64 (cellUp X x j) ∧ wr = w) (fun _ i _ => len - (intOf i).toNat)
  case atStart => exact ⟨0, by omega, rfl, rfl, rfl⟩
  case round =>
    obtain ⟨j, hj, rfl, rfl, rfl⟩ := hrel
    have v1 : IntKind.i64.wrap ((j : Int) + 1) = (j : Int) + 1 := IntWalk.i64_in _ (by omega)
    have v2 : wrap64 ((j : Int) + 1) = (j : Int) + 1 := by unfold wrap64; omega
    by_cases hlt : j + 1 < len
    · obtain ⟨b, off, rfl, hb, hcell⟩ := HD.out.at' (by omega)
      have c0 := (hcell j (by omega)).1
      clear hcell
      have g1 : (j : Int) + 1 < len := by omega
      have E := Lib.hid (show cellUp X x (j + 1) = if X j ≤ x then j else cellUp X x j from rfl)
      by_cases c : X j ≤ x
      · rw [if_pos c] at E
        go_wp2
        go_roundw
        case rel => exact ⟨j + 1, by omega, by go_num, by rw [E.out], trivial⟩
        case measure => simp [intOf]; omega
      · rw [if_neg c] at E
        go_wp2
        go_roundw
        case rel => exact ⟨j + 1, by omega, by go_num, by rw [E.out], trivial⟩
        case measure => simp [intOf]; omega
    · have g1 : ¬ (j : Int) + 1 < len := by omega
      have E := Lib.hid (show j = len - 1 by omega)
      go_wp2
      go_ret
      exact ⟨by rw [← E.out]; rfl, rfl⟩
end Go.Proofs.Ytbggakbjppnchaa
