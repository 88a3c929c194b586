/- Contracts of package fx: Floor, Clamp; of the statements' awake. -/
import Derived.Test.YtmdcfnifbkpedaaGe
namespace Go.Proofs.Ytmdcfnifbkpedaa
open Go.RowKit

def clampF (a l h : Int) : Int := if a < l then l else if h < a then h else a
theorem clampF_in {a l h : Int} (ha : In64 a) (hl : In64 l) (hh : In64 h) : In64 (clampF a l h) := by
  unfold clampF
  by_cases p : a < l
  · rw [if_pos p]; exact hl
  · rw [if_neg p]
    by_cases q : h < a
    · rw [if_pos q]; exact hh
    · rw [if_neg q]; exact ha
/-- what a call by a receiver leaves, laid open for the walk -/
theorem fx_open {w w1 : World} {b k : Nat} {o p : Bool} (m : MAt w b k o) (h : FxW w.heap.size w b k p w1) :
    Hid (MAt w1 b k p) ∧ w1.cell? ⟨b, k, none⟩ = some (.bool p) ∧ w.heap.size ≤ w1.heap.size := ⟨h.at m m.lt, (h.at m m.lt).c, h.size⟩
theorem ev1 : mulF 2147483648 1 = 0 ∧ mulO 2147483648 1 = false := by decide +kernel
theorem ev2 : mulF 6442450944 1 = 2 ∧ mulO 6442450944 1 = false := by decide +kernel
theorem ev3 : divF 4294967296 12884901888 = 1431655765 ∧ divO 4294967296 12884901888 = false := by decide +kernel
theorem ev4 : mulF 4611686018427387904 4611686018427387904 = 9223372036854775807 ∧ mulO 4611686018427387904 4611686018427387904 = true := by decide +kernel
end Go.Proofs.Ytmdcfnifbkpedaa
