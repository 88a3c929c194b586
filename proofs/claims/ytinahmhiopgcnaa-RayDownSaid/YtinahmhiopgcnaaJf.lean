/- Contracts of the program's vec: Dot, Cross, Len, Unit, Clamp, Flat, Along. -/
import Derived.Test.YtinahmhiopgcnaaJe
import Derived.Test.YtinahmhiopgcnaaJd
namespace Go.Proofs.Ytinahmhiopgcnaa
open Go.RowKit
set_option linter.unusedVariables false
set_option linter.unusedSimpArgs false

set_option maxHeartbeats 2000000 in
theorem VUnit_any (a1 a2 a3 n : Int) (b k : Nat) (o : Bool) (w : World) (ha : In3 a1 a2 a3) (hn : lenF (a1 * a1 + a2 * a2 + a3 * a3) = n) (m : MAt w b k o) :
    Calls Try.prog 44 #[.pointer (some ⟨b, k, none⟩), .agg #[.int .i64 a1, .int .i64 a2, .int .i64 a3]] w fun e w' => e = .returned (.tuple #[.agg #[.int .i64 (if n = 0 then 0 else divF a1 n), .int .i64 (if n = 0 then 0 else divF a2 n), .int .i64 (if n = 0 then 0 else divF a3 n)], .bool (!decide (n = 0))]) ∧ FxW w.heap.size w b k (if n = 0 then o || lenO (a1 * a1 + a2 * a2 + a3 * a3) else o || lenO (a1 * a1 + a2 * a2 + a3 * a3) || divO a1 n || divO a2 n || divO a3 n) w' := by
  have U := Lib.hid (fun (W : World) (m : MAt W b k o) => Unit3_any a1 a2 a3 n b k o W hn ha.x0 ha.x1 ha.y0 ha.y1 ha.z0 ha.z1 m)
  rw [un3_agg] at U
  obtain ⟨p, hp⟩ : ∃ p, (if n = 0 then 0 else divF a1 n) = p := ⟨_, rfl⟩
  obtain ⟨q, hq⟩ : ∃ p, (if n = 0 then 0 else divF a2 n) = p := ⟨_, rfl⟩
  obtain ⟨r, hr⟩ : ∃ p, (if n = 0 then 0 else divF a3 n) = p := ⟨_, rfl⟩
  obtain ⟨s, hs⟩ : ∃ p, (!decide (n = 0)) = p := ⟨_, rfl⟩
  obtain ⟨g, hg⟩ : ∃ g, (if n = 0 then o || lenO (a1 * a1 + a2 * a2 + a3 * a3) else o || lenO (a1 * a1 + a2 * a2 + a3 * a3) || divO a1 n || divO a2 n || divO a3 n) = g := ⟨_, rfl⟩
  rw [hp, hq, hr, hs, hg] at U ⊢
  clear hp hq hr hs hg hn ha
  go_enter Try.func44, Try.ntmps44
  go_wp2_with fail
  refine calls_gen (S := fun W => VW W (w.heap.size + 1) 0 0 0 ∧ Below w.heap.size w W) ⟨VW.new _ _ 0 0 0 _ (by simp), by repeat (first | exact Below.refl _ _ | assumption | refine Below.setCell ?_ (by first | omega | (simp; done) | (simp; omega)) _ | refine Below.alloc ?_ (by first | omega | (simp; done) | (simp; omega)) _ | refine below_drewN ?_ _ | refine Below.drew ?_ | refine Below.trans ?_ (Below.mono (by assumption) (by first | omega | (simp; done) | (simp; omega))))⟩ (fun W0 hS => ?_)
  have R0 := Lib.hid hS.1
  have G0 := Lib.hid (Flag.start m hS.2)
  clear hS m
  refine (U.out _ G0.out.m).mono ?_
  rintro e w1 ⟨rfl, h⟩
  have G1 := Lib.hid (G0.out.fx h)
  have R1 := Lib.hid (R0.out.fx h (by have := G0.out.lt; omega))
  clear h G0 R0 U
  have r0 := R1.out.c0
  have r1 := R1.out.c1
  have r2 := R1.out.c2
  have rf := R1.out.f
  go_wp2
  exact bodyPost_ret (v := .tuple #[.agg #[.int .i64 p, .int .i64 q, .int .i64 r], .bool s]) (by simp [results, Try.results44, go_sem, r0, r1, r2]) rfl ⟨rfl, G1.out.put3 (by omega) _ _ _⟩
end Go.Proofs.Ytinahmhiopgcnaa
