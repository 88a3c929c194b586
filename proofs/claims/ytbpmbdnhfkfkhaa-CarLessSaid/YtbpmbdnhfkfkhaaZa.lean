/- The document's car: the tyre's pane. -/
import Derived.Test.YtbpmbdnhfkfkhaaZ2
import Derived.Test.YtbpmbdnhfkfkhaaPe
namespace Go.Proofs.Ytbpmbdnhfkfkhaa
open Go.RowKit
set_option linter.unusedVariables false
set_option linter.unusedSimpArgs false

/-- what is wrong with a tyre's pane -/
def tyreN (p : Pn) : Int := if paneR p = 0 then (if p.x.v 0 < 0 ∨ p.y.v 0 < 0 ∨ lowP p < 0 ∨ 17179869184 < highP p then 40 else 0) else paneR p
set_option maxRecDepth 100000 in
set_option maxHeartbeats 8000000 in
theorem rCTyre_any (p : Pn) (B : Nat) (w : World) (hB : B ≤ w.heap.size) (F : fewP p) (K : Pan B w p) :
    Calls Try.prog 30 #[.agg #[.slice p.x.a p.x.n p.x.c, .slice p.y.a p.y.n p.y.c, .slice p.a p.n p.c]] w fun e w' => e = .returned (.int .i64 (tyreN p)) ∧ Below w.heap.size w w' := by
  have Q0 := Lib.hid (PQ.new 33 K hB)
  have XR := Lib.hid (fun (W : World) (Q : PQ w W B w.heap.size p) => rPRight_any p B W (by have := Q.z; have := Q.l.size; omega) F Q.p)
  have XB := Lib.hid (fun (W : World) (Q : PQ w W B w.heap.size p) => rPBounds_any p B W (by have := Q.z; have := Q.l.size; omega) F Q.p)
  obtain ⟨R, hR⟩ : ∃ R, tyreN p = R := ⟨_, rfl⟩
  rw [hR]
  clear K F
  obtain ⟨a0, a1, a2⟩ := Q0.out.k.h3
  by_cases z : paneR p = 0
  rotate_left
  · have E := Lib.hid (show paneR p = R by rw [← hR]; unfold tyreN; rw [if_neg z])
    have b3 : (paneR p == 0) = false := beq_false_of_ne z
    clear hR XB
    generalize paneR p = er at *
    go_enter Try.func30, Try.ntmps30
    go_wp2_with fail
    refine calls_gen (S := fun W => PQ w W B w.heap.size p) Q0.out (fun W1 hS => ?_)
    have Q1 := Lib.hid hS
    clear hS Q0
    refine (XR.out _ Q1.out).mono ?_
    rintro e w2 ⟨rfl, h⟩
    have Q2 := Lib.hid (Q1.out.step h)
    clear h Q1 XR a0 a1 a2
    go_wp2
    go_ret
    exact ⟨retI E.out, Q2.out.l⟩
  have SH := (paneR_ok z).1
  have n1 : 0 < p.x.n := by have := SH.1.1; omega
  have n2 : 0 < p.y.n := by have := SH.1.2.2.1; omega
  clear SH
  have HR := Lib.hid (show (if p.x.v 0 < 0 ∨ p.y.v 0 < 0 ∨ lowP p < 0 ∨ 17179869184 < highP p then (40 : Int) else 0) = R by rw [← hR]; unfold tyreN; rw [if_pos z])
  have N40 : p.x.v 0 < 0 ∨ p.y.v 0 < 0 ∨ lowP p < 0 ∨ 17179869184 < highP p → (40 : Int) = R := fun h => by rw [← HR.out, if_pos h]
  have N0 : ¬ (p.x.v 0 < 0 ∨ p.y.v 0 < 0 ∨ lowP p < 0 ∨ 17179869184 < highP p) → (0 : Int) = R := fun h => by rw [← HR.out, if_neg h]
  have N40 := Lib.hid N40
  have N0 := Lib.hid N0
  clear hR HR
  rw [z] at XR
  clear z
  obtain ⟨lo, hlo⟩ : ∃ l, lowP p = l := ⟨_, rfl⟩
  obtain ⟨hi, hhi⟩ : ∃ l, highP p = l := ⟨_, rfl⟩
  rw [hlo, hhi] at XB N40 N0
  clear hlo hhi
  go_enter Try.func30, Try.ntmps30
  go_wp2_with fail
  refine calls_gen (S := fun W => PQ w W B w.heap.size p) Q0.out (fun W1 hS => ?_)
  have Q1 := Lib.hid hS
  clear hS Q0 a0 a1 a2
  refine (XR.out _ Q1.out).mono ?_
  rintro e w2 ⟨rfl, h⟩
  have Q2 := Lib.hid (Q1.out.step h)
  clear h Q1 XR
  obtain ⟨a0, a1, a2⟩ := Q2.out.k.h3
  go_wp2_with fail
  refine (XB.out _ Q2.out).mono ?_
  rintro e w4 ⟨rfl, h⟩
  have Q4 := Lib.hid (Q2.out.step h)
  clear h Q2 XB a0 a1 a2
  obtain ⟨bx, ox, ex, hbx, hcx⟩ := Q4.out.p.x.at' n1
  obtain ⟨bz, oz, ez, hbz, hcz⟩ := Q4.out.p.y.at' n2
  have cx : w4.cell? ⟨bx, ox, none⟩ = some (.int .i64 (p.x.v 0)) := hcx 0 n1
  have cz : w4.cell? ⟨bz, oz, none⟩ = some (.int .i64 (p.y.v 0)) := hcz 0 n2
  have a0 : w4.cell? ⟨w.heap.size, 0, none⟩ = some (.slice (some ⟨bx, ox, none⟩) p.x.n p.x.c) := by rw [← ex]; exact Q4.out.k.h3.1
  have a1 : w4.cell? ⟨w.heap.size, 1, none⟩ = some (.slice (some ⟨bz, oz, none⟩) p.y.n p.y.c) := by rw [← ez]; exact Q4.out.k.h3.2.1
  have m1 : (0 : Int) < (p.x.n : Int) := by omega
  have m2 : (0 : Int) < (p.y.n : Int) := by omega
  clear hcx hcz ex ez
  by_cases c1 : p.x.v 0 < 0
  · have yg := N40.out (Or.inl c1)
    have yg := Lib.hid yg
    clear N40 N0
    go_wp2
    go_ret
    exact ⟨retI yg.out, Q4.out.l⟩
  by_cases c2 : p.y.v 0 < 0
  · have yg := Lib.hid (N40.out (Or.inr (Or.inl c2)))
    clear N40 N0
    go_wp2
    go_ret
    exact ⟨retI yg.out, Q4.out.l⟩
  by_cases c3 : lo < 0
  · have yg := Lib.hid (N40.out (Or.inr (Or.inr (Or.inl c3))))
    clear N40 N0
    go_wp2
    go_ret
    exact ⟨retI yg.out, Q4.out.l⟩
  by_cases c4 : 17179869184 < hi
  · have yg := Lib.hid (N40.out (Or.inr (Or.inr (Or.inr c4))))
    clear N40 N0
    go_wp2_with fail
    refine (rCWhole_any 4 (17179869184) (by decide +kernel) _).mono ?_
    rintro e w5 ⟨rfl, rfl⟩
    go_wp2
    go_ret
    exact ⟨retI yg.out, Q4.out.l⟩
  · have yg := Lib.hid (N0.out (by omega))
    clear N40 N0
    go_wp2_with fail
    refine (rCWhole_any 4 (17179869184) (by decide +kernel) _).mono ?_
    rintro e w5 ⟨rfl, rfl⟩
    go_wp2
    go_ret
    exact ⟨retI yg.out, Q4.out.l⟩
end Go.Proofs.Ytbpmbdnhfkfkhaa
