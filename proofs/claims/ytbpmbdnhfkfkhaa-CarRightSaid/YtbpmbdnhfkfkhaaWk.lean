/- The statements' example of a car, whole. -/
import Derived.Test.YtbpmbdnhfkfkhaaWj
namespace Go.Proofs.Ytbpmbdnhfkfkhaa
open Go.RowKit
set_option linter.unusedVariables false
set_option linter.unusedSimpArgs false

set_option maxRecDepth 100000 in
set_option maxHeartbeats 8000000 in
theorem lSample_any (w : World) : Calls Try.prog 35 #[] w fun e w' => ∃ n, e = .returned (.agg (carL (smpC n)).toArray) ∧ CrM w'.heap.size w' (smpC n) ∧ Below w.heap.size w w' := by
  have Z0 := BW.new w w.heap.size zcL 37 rfl
  have Z1 := BW.new (w.alloc (.cells zcL.toArray 37)) (w.heap.size + 1) zcL 37 (by simp)
  have S0 := Lib.hid (show SmS w (((w.alloc (.cells zcL.toArray 37)).alloc (.cells zcL.toArray 37)).setCells (w.heap.size + 1) 0 smL0) smL0 [] from
    ⟨((Z0.alloc _).apart (by omega)), Z1.store rfl, fun n l h => (List.not_mem_nil h).elim, (((Below.refl _ _).alloc (Nat.le_refl _) _).alloc (by simp) _).trans (below_setC (by omega) _ _ _)⟩)
  have HT := Lib.hid Z1.there
  clear Z0 Z1
  go_enter Try.func35, Try.ntmps35
  go_wp2_with fail
  refine (lwhole_any (1000) (4294967296000) (by decide +kernel) _).mono ?_
  rintro e w1 ⟨rfl, rfl⟩
  go_wp2_with fail
  refine (lwhole_any (400) (1717986918400) (by decide +kernel) _).mono ?_
  rintro e w1 ⟨rfl, rfl⟩
  go_wp2_with fail
  refine (lwhole_any (1200) (5153960755200) (by decide +kernel) _).mono ?_
  rintro e w1 ⟨rfl, rfl⟩
  go_wp2_with fail
  refine (lwhole_any (1400) (6012954214400) (by decide +kernel) _).mono ?_
  rintro e w1 ⟨rfl, rfl⟩
  go_wp2_with fail
  rw [run_sc _ _ _ (by exact HT.out) (by decide +kernel)]
  go_wp2_with fail
  rename_i K0 a0
  have A0 := Lib.hid a0
  clear a0
  refine wp_gen (S := fun W => SmS w W smL0 []) S0.out (fun W1 hS => ?_)
  have S1 := Lib.hid hS
  clear hS S0 HT
  go_loopw [2, 3] (fun i _ wr => ∃ j : Nat, j ≤ 4 ∧ i = .int .i64 j ∧ SmS w wr (smL j) []) (fun i _ _ => 4 - (intOf i).toNat)
  case atStart => exact ⟨0, by omega, rfl, S1.out⟩
  case round =>
    obtain ⟨j, hj, rfl, hS⟩ := hrel
    have S2 := Lib.hid hS
    clear hS S1
    rcases (show j = 0 ∨ j = 1 ∨ j = 2 ∨ j = 3 ∨ j = 4 by omega) with rfl | rfl | rfl | rfl | rfl
    · skip
      have k0 := S2.out.c.c 4 _ rfl
      have k1 := S2.out.c.c 5 _ rfl
      have k2 := S2.out.c.c 6 _ rfl
      have k3 := S2.out.c.c 7 _ rfl
      have k4 := S2.out.c.c 8 _ rfl
      have k5 := S2.out.c.c 9 _ rfl
      have k6 := S2.out.c.c 10 _ rfl
      have k7 := S2.out.c.c 11 _ rfl
      have k8 := S2.out.c.c 12 _ rfl
      have k9 := S2.out.c.c 13 _ rfl
      have kf := S2.out.c.f
      have kl := S2.out.c.lt
      go_wp2_with fail
      refine (lwhole_any (40000) (171798691840000) (by decide +kernel) _).mono ?_
      rintro e w1 ⟨rfl, rfl⟩
      go_wp2_with fail
      refine (lwhole_any (100000) (429496729600000) (by decide +kernel) _).mono ?_
      rintro e w1 ⟨rfl, rfl⟩
      go_wp2_with fail
      refine (lwhole_any (1) (4294967296) (by decide +kernel) _).mono ?_
      rintro e w1 ⟨rfl, rfl⟩
      go_wp2_with fail
      refine ⟨⟨1, by omega, rfl, ((((((((((S2.out.set 4 _ _ rfl).set 5 _ _ rfl).set 6 _ _ rfl).set 7 _ _ rfl).set 8 _ _ rfl).set 9 _ _ rfl).set 10 _ _ rfl).set 11 _ _ rfl).set 12 _ _ rfl).set 13 _ _ rfl).alloc _⟩, by simp [intOf]⟩
    · skip
      have k0 := S2.out.c.c 14 _ rfl
      have k1 := S2.out.c.c 15 _ rfl
      have k2 := S2.out.c.c 16 _ rfl
      have k3 := S2.out.c.c 17 _ rfl
      have k4 := S2.out.c.c 18 _ rfl
      have k5 := S2.out.c.c 19 _ rfl
      have k6 := S2.out.c.c 20 _ rfl
      have k7 := S2.out.c.c 21 _ rfl
      have k8 := S2.out.c.c 22 _ rfl
      have k9 := S2.out.c.c 23 _ rfl
      have kf := S2.out.c.f
      have kl := S2.out.c.lt
      go_wp2_with fail
      refine (lwhole_any (40000) (171798691840000) (by decide +kernel) _).mono ?_
      rintro e w1 ⟨rfl, rfl⟩
      go_wp2_with fail
      refine (lwhole_any (100000) (429496729600000) (by decide +kernel) _).mono ?_
      rintro e w1 ⟨rfl, rfl⟩
      go_wp2_with fail
      refine (lwhole_any (1) (4294967296) (by decide +kernel) _).mono ?_
      rintro e w1 ⟨rfl, rfl⟩
      go_wp2_with fail
      refine ⟨⟨2, by omega, rfl, ((((((((((S2.out.set 14 _ _ rfl).set 15 _ _ rfl).set 16 _ _ rfl).set 17 _ _ rfl).set 18 _ _ rfl).set 19 _ _ rfl).set 20 _ _ rfl).set 21 _ _ rfl).set 22 _ _ rfl).set 23 _ _ rfl).alloc _⟩, by simp [intOf]⟩
    · skip
      have k0 := S2.out.c.c 24 _ rfl
      have k1 := S2.out.c.c 25 _ rfl
      have k2 := S2.out.c.c 26 _ rfl
      have k3 := S2.out.c.c 27 _ rfl
      have k4 := S2.out.c.c 28 _ rfl
      have k5 := S2.out.c.c 29 _ rfl
      have k6 := S2.out.c.c 30 _ rfl
      have k7 := S2.out.c.c 31 _ rfl
      have k8 := S2.out.c.c 32 _ rfl
      have k9 := S2.out.c.c 33 _ rfl
      have kf := S2.out.c.f
      have kl := S2.out.c.lt
      go_wp2_with fail
      refine (lwhole_any (40000) (171798691840000) (by decide +kernel) _).mono ?_
      rintro e w1 ⟨rfl, rfl⟩
      go_wp2_with fail
      refine (lwhole_any (100000) (429496729600000) (by decide +kernel) _).mono ?_
      rintro e w1 ⟨rfl, rfl⟩
      go_wp2_with fail
      refine (lwhole_any (1) (4294967296) (by decide +kernel) _).mono ?_
      rintro e w1 ⟨rfl, rfl⟩
      go_wp2_with fail
      refine ⟨⟨3, by omega, rfl, ((((((((((S2.out.set 24 _ _ rfl).set 25 _ _ rfl).set 26 _ _ rfl).set 27 _ _ rfl).set 28 _ _ rfl).set 29 _ _ rfl).set 30 _ _ rfl).set 31 _ _ rfl).set 32 _ _ rfl).set 33 _ _ rfl).alloc _⟩, by simp [intOf]⟩
    · skip
      have k0 := S2.out.c.c 34 _ rfl
      have k1 := S2.out.c.c 35 _ rfl
      have k2 := S2.out.c.c 36 _ rfl
      have k3 := S2.out.c.c 37 _ rfl
      have k4 := S2.out.c.c 38 _ rfl
      have k5 := S2.out.c.c 39 _ rfl
      have k6 := S2.out.c.c 40 _ rfl
      have k7 := S2.out.c.c 41 _ rfl
      have k8 := S2.out.c.c 42 _ rfl
      have k9 := S2.out.c.c 43 _ rfl
      have kf := S2.out.c.f
      have kl := S2.out.c.lt
      go_wp2_with fail
      refine (lwhole_any (40000) (171798691840000) (by decide +kernel) _).mono ?_
      rintro e w1 ⟨rfl, rfl⟩
      go_wp2_with fail
      refine (lwhole_any (100000) (429496729600000) (by decide +kernel) _).mono ?_
      rintro e w1 ⟨rfl, rfl⟩
      go_wp2_with fail
      refine (lwhole_any (1) (4294967296) (by decide +kernel) _).mono ?_
      rintro e w1 ⟨rfl, rfl⟩
      go_wp2_with fail
      refine ⟨⟨4, by omega, rfl, ((((((((((S2.out.set 34 _ _ rfl).set 35 _ _ rfl).set 36 _ _ rfl).set 37 _ _ rfl).set 38 _ _ rfl).set 39 _ _ rfl).set 40 _ _ rfl).set 41 _ _ rfl).set 42 _ _ rfl).set 43 _ _ rfl).alloc _⟩, by simp [intOf]⟩
    · skip
      go_wp2_with fail
      exact A0.out _ _ (lSample_tail w wr S2.out _ _ _ _ _ _ _ _ _ _ _ _ _ _ _ _ _ _ _ _ _ _ _ _ _ _ _ _ _ _ _ _ _ _ _ _ _ _ _ _ _ _ _ _ _ _ _ _ _ _ _ _ _ _ _ _ _ _ _ _ _ _ _ _ _ _ _ _ _ _ _ _ _ _ _ _ _ _ _ _ _ _ _ _ _ _ _ _ _ _ _ _ _ _ _ _ _ _ _ _ _ _ _ _ _ _ _ _ _ _ _ _ _ _ _)
end Go.Proofs.Ytbpmbdnhfkfkhaa
