/- Contracts of the document's vec: Neg, Along, Len, Unit, Clamp. -/
import Derived.Test.YtinahmhiopgcnaaGreatBj
import Derived.Test.YtinahmhiopgcnaaGreatBr
namespace Go.Proofs.YtinahmhiopgcnaaGreat
open Go.RowKit
set_option linter.unusedVariables false
set_option linter.unusedSimpArgs false

theorem in3_zero : In3 0 0 0 := ⟨by omega, by omega, by omega, by omega, by omega, by omega⟩
theorem in3_sub (a1 a2 a3 b1 b2 b3 : Int) : In3 (subF a1 b1) (subF a2 b2) (subF a3 b3) :=
  ⟨(subF_in _ _).1, (subF_in _ _).2, (subF_in _ _).1, (subF_in _ _).2, (subF_in _ _).1, (subF_in _ _).2⟩
theorem in3_mul (a1 a2 a3 b1 b2 b3 : Int) : In3 (mulF a1 b1) (mulF a2 b2) (mulF a3 b3) :=
  ⟨(mulF_in _ _).1, (mulF_in _ _).2, (mulF_in _ _).1, (mulF_in _ _).2, (mulF_in _ _).1, (mulF_in _ _).2⟩
theorem dotF_in (a1 a2 a3 b1 b2 b3 : Int) : In64 (dotF a1 a2 a3 b1 b2 b3) := addF_in _ _
/-- a direction and whether there is one, by the length n -/
theorem un3_agg (x y z n : Int) : (if n = 0 then Value.tuple #[.int .i64 0, .int .i64 0, .int .i64 0, .bool false] else .tuple #[.int .i64 (divF x n), .int .i64 (divF y n), .int .i64 (divF z n), .bool true]) = .tuple #[.int .i64 (if n = 0 then 0 else divF x n), .int .i64 (if n = 0 then 0 else divF y n), .int .i64 (if n = 0 then 0 else divF z n), .bool (!decide (n = 0))] := by
  by_cases c : n = 0
  · simp [c]
  · simp [c]
set_option maxHeartbeats 2000000 in
theorem rVUnit_any (a1 a2 a3 n : Int) (b k : Nat) (o : Bool) (w : World) (ha : In3 a1 a2 a3) (hn : lenF (a1 * a1 + a2 * a2 + a3 * a3) = n) (m : MAt w b k o) :
    Calls Tryz.prog 53 #[.pointer (some ⟨b, k, none⟩), .agg #[.int .i64 a1, .int .i64 a2, .int .i64 a3]] w fun e w' => e = .returned (.tuple #[.agg #[.int .i64 (if n = 0 then 0 else divF a1 n), .int .i64 (if n = 0 then 0 else divF a2 n), .int .i64 (if n = 0 then 0 else divF a3 n)], .bool (!decide (n = 0))]) ∧ FxW w.heap.size w b k (if n = 0 then o || lenO (a1 * a1 + a2 * a2 + a3 * a3) else o || lenO (a1 * a1 + a2 * a2 + a3 * a3) || divO a1 n || divO a2 n || divO a3 n) w' := by
  have U := Lib.hid (fun (W : World) (m : MAt W b k o) => rUnit3_any a1 a2 a3 n b k o W hn ha.x0 ha.x1 ha.y0 ha.y1 ha.z0 ha.z1 m)
  rw [un3_agg] at U
  obtain ⟨p, hp⟩ : ∃ p, (if n = 0 then 0 else divF a1 n) = p := ⟨_, rfl⟩
  obtain ⟨q, hq⟩ : ∃ p, (if n = 0 then 0 else divF a2 n) = p := ⟨_, rfl⟩
  obtain ⟨r, hr⟩ : ∃ p, (if n = 0 then 0 else divF a3 n) = p := ⟨_, rfl⟩
  obtain ⟨s, hs⟩ : ∃ p, (!decide (n = 0)) = p := ⟨_, rfl⟩
  obtain ⟨g, hg⟩ : ∃ g, (if n = 0 then o || lenO (a1 * a1 + a2 * a2 + a3 * a3) else o || lenO (a1 * a1 + a2 * a2 + a3 * a3) || divO a1 n || divO a2 n || divO a3 n) = g := ⟨_, rfl⟩
  rw [hp, hq, hr, hs, hg] at U ⊢
  clear hp hq hr hs hg hn ha
  go_enter Tryz.func53, Tryz.ntmps53
  go_wp2_with fail
  have A0 := Lib.hid ((VW.new w w.heap.size a1 a2 a3 36 rfl).alloc (.cells #[.int .i64 0, .int .i64 0, .int .i64 0] 36))
  have R0 := Lib.hid (VW.new (w.alloc (.cells #[.int .i64 a1, .int .i64 a2, .int .i64 a3] 36)) (w.heap.size + 1) 0 0 0 36 (by simp))
  have L0 : Below w.heap.size w ((w.alloc (.cells #[.int .i64 a1, .int .i64 a2, .int .i64 a3] 36)).alloc (.cells #[.int .i64 0, .int .i64 0, .int .i64 0] 36)) := by repeat (first | exact Below.refl _ _ | assumption | refine Below.setCell ?_ (by first | omega | (simp; done) | (simp; omega)) _ | refine Below.alloc ?_ (by first | omega | (simp; done) | (simp; omega)) _ | refine below_drewN ?_ _ | refine Below.drew ?_ | refine Below.trans ?_ (Below.mono (by assumption) (by first | omega | (simp; done) | (simp; omega))))
  have G0 := Lib.hid (Flag.start m L0)
  generalize (w.alloc (.cells #[.int .i64 a1, .int .i64 a2, .int .i64 a3] 36)).alloc (.cells #[.int .i64 0, .int .i64 0, .int .i64 0] 36) = W0 at *
  clear L0 m
  refine (U.out _ G0.out.m).mono ?_
  rintro e w1 ⟨rfl, h⟩
  have G1 := Lib.hid (G0.out.fx h)
  have R1 := Lib.hid (R0.out.fx h (by have := G0.out.lt; omega))
  clear h G0 R0 A0 U
  have r0 := R1.out.c0
  have r1 := R1.out.c1
  have r2 := R1.out.c2
  have rf := R1.out.f
  go_wp2
  exact bodyPost_ret (v := .tuple #[.agg #[.int .i64 p, .int .i64 q, .int .i64 r], .bool s]) (by simp [results, Tryz.results53, go_sem, r0, r1, r2]) rfl ⟨rfl, G1.out.put3 (by omega) _ _ _⟩
end Go.Proofs.YtinahmhiopgcnaaGreat
