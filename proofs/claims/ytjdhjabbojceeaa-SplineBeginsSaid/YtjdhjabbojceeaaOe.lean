/- The walks of stage 8's statements, whatever the program's own table does as long as it tells what is told here: awake, TableRight, TableEval. -/
import Derived.Test.YtjdhjabbojceeaaOd
import Derived.Test.YtjdhjabbojceeaaBy
namespace Go.Proofs.Ytjdhjabbojceeaa
open Go.RowKit
set_option linter.unusedVariables false
set_option linter.unusedSimpArgs false

theorem Dots.fx {W W' : World} {a : Option Addr} {len cap : Nat} {X Y : Nat → Int} {b k : Nat} {q : Bool} (D : Dots W a len cap X Y) (h : FxW W.heap.size W b k q W') (hne : 0 < len → ∀ p, a = some p → p.block ≠ b) : Dots W' a len cap X Y :=
  ⟨D.hm, D.hl, D.wf, fun h0 => by
    obtain ⟨bs, off, rfl, hb, hc⟩ := D.at' h0
    have ne : b ≠ bs := fun e => hne h0 _ rfl e.symm
    exact ⟨bs, off, rfl, by have := h.size; omega, fun i hi => ⟨(h.cell hb ne).trans (hc i hi).1, (h.cell hb ne).trans (hc i hi).2⟩⟩⟩
theorem Dots.off {W : World} {a : Option Addr} {len cap : Nat} {X Y : Nat → Int} (D : Dots W a len cap X Y) (h : 0 < len) {n : Nat} (hn : W.heap.size ≤ n) : ∀ p, a = some p → p.block ≠ n := by
  intro p hp
  obtain ⟨b, off, rfl, hb, _⟩ := D.at' h
  cases hp
  show b ≠ n
  omega
def exX (i : Nat) : Int := if i = 0 then 0 else 17179869184
def exY (i : Nat) : Int := if i = 0 then 4294967296 else 12884901888
theorem ex_ev : evalN 2 exX exY 4294967296 = 6442450944 ∧ evalN 2 exX exY (-21474836480) = 4294967296 ∧ evalN 2 exX exY 38654705664 = 12884901888 ∧ rightN 2 exX exY = 0 ∧ (false || evalO 2 exX exY 4294967296) = false ∧ (false || evalO 2 exX exY (-21474836480)) = false ∧ (false || evalO 2 exX exY 38654705664) = false ∧ rightN 0 exX exY = 42 := by decide +kernel
theorem ex_dots {W : World} {n : Nat} (B : BW W n [.int .i64 0, .int .i64 4294967296, .int .i64 17179869184, .int .i64 12884901888]) : Dots W (some ⟨n, 0, none⟩) 2 2 exX exY := by
  refine ⟨by unfold maxLen; omega, by omega, fun i h => ?_, fun _ => ⟨n, 0, rfl, B.lt, fun i h => ?_⟩⟩
  · obtain rfl | rfl : i = 0 ∨ i = 1 := by omega
    · exact ⟨by decide, by decide⟩
    · exact ⟨by decide, by decide⟩
  · obtain rfl | rfl : i = 0 ∨ i = 1 := by omega
    · exact ⟨B.c 0 _ rfl, B.c 1 _ rfl⟩
    · exact ⟨B.c 2 _ rfl, B.c 3 _ rfl⟩
theorem nil_dots {W : World} : Dots W none 0 0 exX exY := ⟨by unfold maxLen; omega, by omega, fun i h => absurd h (by omega), fun h => absurd h (by omega)⟩
end Go.Proofs.Ytjdhjabbojceeaa
