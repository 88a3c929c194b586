/- The document's car: rCEngine. -/
import Derived.Test.YtbpmbdnhfkfkhaaZ2
namespace Go.Proofs.Ytbpmbdnhfkfkhaa
open Go.RowKit
set_option linter.unusedVariables false
set_option linter.unusedSimpArgs false

def rCEngineB (c : Cr) : Bool := inC (0) (17179869184) (c.f 52) && (inC (67108864) (68719476736) (c.f 53) && (inC (137438953472) (2199023255552) (c.f 54) && (inC (274877906944) (8796093022208) (c.f 55) && (inC (0) (4294967296) (c.f 56) && (inC (4294967296) (1099511627776) (c.f 57) && (inC (0) (17592186044416) (c.f 58)))))))
def rCEngineN (c : Cr) : Int := if rCEngineB c = true then if c.f 55 ≤ c.f 54 then 41 else 0 else 40
set_option maxRecDepth 100000 in
set_option maxHeartbeats 8000000 in
theorem rCEngine_any (c : Cr) (w : World) : Calls Try.prog 31 #[.agg (carL c).toArray] w fun e w' => e = .returned (.int .i64 (rCEngineN c)) ∧ Below w.heap.size w w' := by
  have B0 := BW.new w _ (carL c) 37 rfl
  have B1 := Lib.hid B0.drew
  clear B0
  go_enter Try.func31, Try.ntmps31
  go_wp2_with fail
  refine wp_region_held_drew (S := fun W => W.cell? ⟨w.heap.size, 52, none⟩ = some (.int .i64 (c.f 52)) ∧ W.cell? ⟨w.heap.size, 53, none⟩ = some (.int .i64 (c.f 53)) ∧ W.cell? ⟨w.heap.size, 54, none⟩ = some (.int .i64 (c.f 54)) ∧ W.cell? ⟨w.heap.size, 55, none⟩ = some (.int .i64 (c.f 55)) ∧ W.cell? ⟨w.heap.size, 56, none⟩ = some (.int .i64 (c.f 56)) ∧ W.cell? ⟨w.heap.size, 57, none⟩ = some (.int .i64 (c.f 57)) ∧ W.cell? ⟨w.heap.size, 58, none⟩ = some (.int .i64 (c.f 58))) (by kernel_rfl) ⟨B1.out.c 52 _ rfl, B1.out.c 53 _ rfl, B1.out.c 54 _ rfl, B1.out.c 55 _ rfl, B1.out.c 56 _ rfl, B1.out.c 57 _ rfl, B1.out.c 58 _ rfl⟩ (fun hHeld => ?_)
  refine tkD 0 3 (v := ?_) ?_ hHeld ?_
  rotate_left 1
  (intro W hSw; (try dsimp only at hSw); go_simp; try with_reducible rfl)
  (try simp only [putA, putB, putC, putD])
  refine tkD 1 4 (v := ?_) ?_ hHeld ?_
  rotate_left 1
  (intro W hSw; (try dsimp only at hSw); go_simp; try with_reducible rfl)
  (try simp only [putA, putB, putC, putD])
  refine tkC 2 5 (fun W _ => rCWhole_any (4) (17179869184) (by decide +kernel) W) hHeld ?_
  (try simp only [putA, putB, putC, putD])
  refine tkC 3 6 (fun W _ => rCIn_any (c.f 52) (0) (17179869184) W) hHeld ?_
  (try simp only [putA, putB, putC, putD])
  cases H0 : inC (0) (17179869184) (c.f 52)
  case false =>
    refine tkD 4 7 (v := ?_) ?_ hHeld ?_
    rotate_left 1
    (intro W hSw; (try dsimp only at hSw); go_simp; try with_reducible rfl)
    (try simp only [putA, putB, putC, putD])
    refine tkD 5 8 (v := ?_) ?_ hHeld ?_
    rotate_left 1
    (intro W hSw; (try dsimp only at hSw); go_simp; try with_reducible rfl)
    (try simp only [putA, putB, putC, putD])
    refine wpAnyH_skipD 6 9 (by kernel_rfl) (by kernel_rfl) (by kernel_rfl) (by kernel_rfl) (by rfl) (fun _ _ _ h => h) hHeld ?_
    (try simp only [putA, putB, putC, putD])
    refine wpAnyH_skipD 7 10 (by kernel_rfl) (by kernel_rfl) (by kernel_rfl) (by kernel_rfl) (by rfl) (fun _ _ _ h => h) hHeld ?_
    (try simp only [putA, putB, putC, putD])
    refine wpAnyH_skipD 8 11 (by kernel_rfl) (by kernel_rfl) (by kernel_rfl) (by kernel_rfl) (by rfl) (fun _ _ _ h => h) hHeld ?_
    (try simp only [putA, putB, putC, putD])
    refine wpAnyH_skipD 9 12 (by kernel_rfl) (by kernel_rfl) (by kernel_rfl) (by kernel_rfl) (by rfl) (fun _ _ _ h => h) hHeld ?_
    (try simp only [putA, putB, putC, putD])
    refine wpAnyH_skipD 10 13 (by kernel_rfl) (by kernel_rfl) (by kernel_rfl) (by kernel_rfl) (by rfl) (fun _ _ _ h => h) hHeld ?_
    (try simp only [putA, putB, putC, putD])
    refine tkD 11 14 (v := ?_) ?_ hHeld ?_
    rotate_left 1
    (intro W hSw; (try dsimp only at hSw); go_simp; try with_reducible rfl)
    (try simp only [putA, putB, putC, putD])
    refine tkD 12 15 (v := ?_) ?_ hHeld ?_
    rotate_left 1
    (intro W hSw; (try dsimp only at hSw); go_simp; try with_reducible rfl)
    (try simp only [putA, putB, putC, putD])
    refine wpAnyH_skipD 13 16 (by kernel_rfl) (by kernel_rfl) (by kernel_rfl) (by kernel_rfl) (by rfl) (fun _ _ _ h => h) hHeld ?_
    (try simp only [putA, putB, putC, putD])
    refine wpAnyH_skipD 14 17 (by kernel_rfl) (by kernel_rfl) (by kernel_rfl) (by kernel_rfl) (by rfl) (fun _ _ _ h => h) hHeld ?_
    (try simp only [putA, putB, putC, putD])
    refine wpAnyH_skipD 15 18 (by kernel_rfl) (by kernel_rfl) (by kernel_rfl) (by kernel_rfl) (by rfl) (fun _ _ _ h => h) hHeld ?_
    (try simp only [putA, putB, putC, putD])
    refine wpAnyH_skipD 16 19 (by kernel_rfl) (by kernel_rfl) (by kernel_rfl) (by kernel_rfl) (by rfl) (fun _ _ _ h => h) hHeld ?_
    (try simp only [putA, putB, putC, putD])
    refine wpAnyH_skipD 17 20 (by kernel_rfl) (by kernel_rfl) (by kernel_rfl) (by kernel_rfl) (by rfl) (fun _ _ _ h => h) hHeld ?_
    (try simp only [putA, putB, putC, putD])
    refine wpAnyH_skipD 18 21 (by kernel_rfl) (by kernel_rfl) (by kernel_rfl) (by kernel_rfl) (by rfl) (fun _ _ _ h => h) hHeld ?_
    (try simp only [putA, putB, putC, putD])
    refine tkD 19 22 (v := ?_) ?_ hHeld ?_
    rotate_left 1
    (intro W hSw; (try dsimp only at hSw); go_simp; try with_reducible rfl)
    (try simp only [putA, putB, putC, putD])
    refine tkD 20 23 (v := ?_) ?_ hHeld ?_
    rotate_left 1
    (intro W hSw; (try dsimp only at hSw); go_simp; try with_reducible rfl)
    (try simp only [putA, putB, putC, putD])
    refine wpAnyH_skipD 21 24 (by kernel_rfl) (by kernel_rfl) (by kernel_rfl) (by kernel_rfl) (by rfl) (fun _ _ _ h => h) hHeld ?_
    (try simp only [putA, putB, putC, putD])
    refine wpAnyH_skipD 22 25 (by kernel_rfl) (by kernel_rfl) (by kernel_rfl) (by kernel_rfl) (by rfl) (fun _ _ _ h => h) hHeld ?_
    (try simp only [putA, putB, putC, putD])
    refine wpAnyH_skipD 23 26 (by kernel_rfl) (by kernel_rfl) (by kernel_rfl) (by kernel_rfl) (by rfl) (fun _ _ _ h => h) hHeld ?_
    (try simp only [putA, putB, putC, putD])
    refine wpAnyH_skipD 24 27 (by kernel_rfl) (by kernel_rfl) (by kernel_rfl) (by kernel_rfl) (by rfl) (fun _ _ _ h => h) hHeld ?_
    (try simp only [putA, putB, putC, putD])
    refine wpAnyH_skipD 25 28 (by kernel_rfl) (by kernel_rfl) (by kernel_rfl) (by kernel_rfl) (by rfl) (fun _ _ _ h => h) hHeld ?_
    (try simp only [putA, putB, putC, putD])
    refine wpAnyH_skipD 26 29 (by kernel_rfl) (by kernel_rfl) (by kernel_rfl) (by kernel_rfl) (by rfl) (fun _ _ _ h => h) hHeld ?_
    (try simp only [putA, putB, putC, putD])
    refine tkD 27 30 (v := ?_) ?_ hHeld ?_
    rotate_left 1
    (intro W hSw; (try dsimp only at hSw); go_simp; try with_reducible rfl)
    (try simp only [putA, putB, putC, putD])
    refine tkD 28 31 (v := ?_) ?_ hHeld ?_
    rotate_left 1
    (intro W hSw; (try dsimp only at hSw); go_simp; try with_reducible rfl)
    (try simp only [putA, putB, putC, putD])
    refine wpAnyH_skipD 29 32 (by kernel_rfl) (by kernel_rfl) (by kernel_rfl) (by kernel_rfl) (by rfl) (fun _ _ _ h => h) hHeld ?_
    (try simp only [putA, putB, putC, putD])
    refine wpAnyH_skipD 30 33 (by kernel_rfl) (by kernel_rfl) (by kernel_rfl) (by kernel_rfl) (by rfl) (fun _ _ _ h => h) hHeld ?_
    (try simp only [putA, putB, putC, putD])
    refine wpAnyH_skipD 31 34 (by kernel_rfl) (by kernel_rfl) (by kernel_rfl) (by kernel_rfl) (by rfl) (fun _ _ _ h => h) hHeld ?_
    (try simp only [putA, putB, putC, putD])
    refine wpAnyH_skipD 32 35 (by kernel_rfl) (by kernel_rfl) (by kernel_rfl) (by kernel_rfl) (by rfl) (fun _ _ _ h => h) hHeld ?_
    (try simp only [putA, putB, putC, putD])
    refine tkD 33 36 (v := ?_) ?_ hHeld ?_
    rotate_left 1
    (intro W hSw; (try dsimp only at hSw); go_simp; try with_reducible rfl)
    (try simp only [putA, putB, putC, putD])
    refine tkD 34 37 (v := ?_) ?_ hHeld ?_
    rotate_left 1
    (intro W hSw; (try dsimp only at hSw); go_simp; try with_reducible rfl)
    (try simp only [putA, putB, putC, putD])
    refine wpAnyH_skipD 35 38 (by kernel_rfl) (by kernel_rfl) (by kernel_rfl) (by kernel_rfl) (by rfl) (fun _ _ _ h => h) hHeld ?_
    (try simp only [putA, putB, putC, putD])
    refine wpAnyH_skipD 36 39 (by kernel_rfl) (by kernel_rfl) (by kernel_rfl) (by kernel_rfl) (by rfl) (fun _ _ _ h => h) hHeld ?_
    (try simp only [putA, putB, putC, putD])
    refine wpAnyH_skipD 37 40 (by kernel_rfl) (by kernel_rfl) (by kernel_rfl) (by kernel_rfl) (by rfl) (fun _ _ _ h => h) hHeld ?_
    (try simp only [putA, putB, putC, putD])
    refine wpAnyH_skipD 38 41 (by kernel_rfl) (by kernel_rfl) (by kernel_rfl) (by kernel_rfl) (by rfl) (fun _ _ _ h => h) hHeld ?_
    (try simp only [putA, putB, putC, putD])
    refine wpAnyH_skipD 39 42 (by kernel_rfl) (by kernel_rfl) (by kernel_rfl) (by kernel_rfl) (by rfl) (fun _ _ _ h => h) hHeld ?_
    (try simp only [putA, putB, putC, putD])
    refine tkD 40 43 (v := ?_) ?_ hHeld ?_
    rotate_left 1
    (intro W hSw; (try dsimp only at hSw); go_simp; try with_reducible rfl)
    (try simp only [putA, putB, putC, putD])
    refine tkD 41 44 (v := ?_) ?_ hHeld ?_
    rotate_left 1
    (intro W hSw; (try dsimp only at hSw); go_simp; try with_reducible rfl)
    (try simp only [putA, putB, putC, putD])
    refine wpAnyH_skipD 42 45 (by kernel_rfl) (by kernel_rfl) (by kernel_rfl) (by kernel_rfl) (by rfl) (fun _ _ _ h => h) hHeld ?_
    (try simp only [putA, putB, putC, putD])
    refine wpAnyH_skipD 43 46 (by kernel_rfl) (by kernel_rfl) (by kernel_rfl) (by kernel_rfl) (by rfl) (fun _ _ _ h => h) hHeld ?_
    (try simp only [putA, putB, putC, putD])
    refine wpAnyH_skipD 44 47 (by kernel_rfl) (by kernel_rfl) (by kernel_rfl) (by kernel_rfl) (by rfl) (fun _ _ _ h => h) hHeld ?_
    (try simp only [putA, putB, putC, putD])
    refine wpAnyH_skipD 45 48 (by kernel_rfl) (by kernel_rfl) (by kernel_rfl) (by kernel_rfl) (by rfl) (fun _ _ _ h => h) hHeld ?_
    (try simp only [putA, putB, putC, putD])
    refine wpAnyH_skipD 46 49 (by kernel_rfl) (by kernel_rfl) (by kernel_rfl) (by kernel_rfl) (by rfl) (fun _ _ _ h => h) hHeld ?_
    (try simp only [putA, putB, putC, putD])
    refine tkD 47 50 (v := ?_) ?_ hHeld ?_
    rotate_left 1
    (intro W hSw; (try dsimp only at hSw); go_simp; try with_reducible rfl)
    (try simp only [putA, putB, putC, putD])
    refine wpAnyH_done (by kernel_rfl) ?_ _
    clear hHeld B1
    go_wp2
    go_ret
    exact ⟨retI (show ((40 : Nat) : Int) = rCEngineN c by simp only [rCEngineN, rCEngineB, H0, Bool.true_and, Bool.false_and, Bool.false_eq_true, if_false]; rfl), by repeat (first | exact Below.refl _ _ | assumption | refine Below.setCell ?_ (by first | omega | (simp; done) | (simp; omega)) _ | refine Below.alloc ?_ (by first | omega | (simp; done) | (simp; omega)) _ | refine below_drewN ?_ _ | refine Below.drew ?_ | refine Below.trans ?_ (Below.mono (by assumption) (by first | omega | (simp; done) | (simp; omega))))⟩
  case true =>
    refine tkD 4 7 (v := ?_) ?_ hHeld ?_
    rotate_left 1
    (intro W hSw; (try dsimp only at hSw); go_simp; try with_reducible rfl)
    (try simp only [putA, putB, putC, putD])
    refine tkD 5 8 (v := ?_) ?_ hHeld ?_
    rotate_left 1
    (intro W hSw; (try dsimp only at hSw); go_simp; try with_reducible rfl)
    (try simp only [putA, putB, putC, putD])
    refine tkD 6 9 (v := ?_) ?_ hHeld ?_
    rotate_left 1
    (intro W hSw; (try dsimp only at hSw); go_simp; try with_reducible rfl)
    (try simp only [putA, putB, putC, putD])
    refine tkD 7 10 (v := ?_) ?_ hHeld ?_
    rotate_left 1
    (intro W hSw; (try dsimp only at hSw); go_simp; try with_reducible rfl)
    (try simp only [putA, putB, putC, putD])
    refine tkC 8 11 (fun W _ => rCWhole_any (16) (68719476736) (by decide +kernel) W) hHeld ?_
    (try simp only [putA, putB, putC, putD])
    refine tkC 9 12 (fun W _ => rCIn_any (c.f 53) (67108864) (68719476736) W) hHeld ?_
    (try simp only [putA, putB, putC, putD])
    cases H1 : inC (67108864) (68719476736) (c.f 53)
    case false =>
      refine tkD 10 13 (v := ?_) ?_ hHeld ?_
      rotate_left 1
      (intro W hSw; (try dsimp only at hSw); go_simp; try with_reducible rfl)
      (try simp only [putA, putB, putC, putD])
      refine tkD 11 14 (v := ?_) ?_ hHeld ?_
      rotate_left 1
      (intro W hSw; (try dsimp only at hSw); go_simp; try with_reducible rfl)
      (try simp only [putA, putB, putC, putD])
      refine tkD 12 15 (v := ?_) ?_ hHeld ?_
      rotate_left 1
      (intro W hSw; (try dsimp only at hSw); go_simp; try with_reducible rfl)
      (try simp only [putA, putB, putC, putD])
      refine wpAnyH_skipD 13 16 (by kernel_rfl) (by kernel_rfl) (by kernel_rfl) (by kernel_rfl) (by rfl) (fun _ _ _ h => h) hHeld ?_
      (try simp only [putA, putB, putC, putD])
      refine wpAnyH_skipD 14 17 (by kernel_rfl) (by kernel_rfl) (by kernel_rfl) (by kernel_rfl) (by rfl) (fun _ _ _ h => h) hHeld ?_
      (try simp only [putA, putB, putC, putD])
      refine wpAnyH_skipD 15 18 (by kernel_rfl) (by kernel_rfl) (by kernel_rfl) (by kernel_rfl) (by rfl) (fun _ _ _ h => h) hHeld ?_
      (try simp only [putA, putB, putC, putD])
      refine wpAnyH_skipD 16 19 (by kernel_rfl) (by kernel_rfl) (by kernel_rfl) (by kernel_rfl) (by rfl) (fun _ _ _ h => h) hHeld ?_
      (try simp only [putA, putB, putC, putD])
      refine wpAnyH_skipD 17 20 (by kernel_rfl) (by kernel_rfl) (by kernel_rfl) (by kernel_rfl) (by rfl) (fun _ _ _ h => h) hHeld ?_
      (try simp only [putA, putB, putC, putD])
      refine wpAnyH_skipD 18 21 (by kernel_rfl) (by kernel_rfl) (by kernel_rfl) (by kernel_rfl) (by rfl) (fun _ _ _ h => h) hHeld ?_
      (try simp only [putA, putB, putC, putD])
      refine tkD 19 22 (v := ?_) ?_ hHeld ?_
      rotate_left 1
      (intro W hSw; (try dsimp only at hSw); go_simp; try with_reducible rfl)
      (try simp only [putA, putB, putC, putD])
      refine tkD 20 23 (v := ?_) ?_ hHeld ?_
      rotate_left 1
      (intro W hSw; (try dsimp only at hSw); go_simp; try with_reducible rfl)
      (try simp only [putA, putB, putC, putD])
      refine wpAnyH_skipD 21 24 (by kernel_rfl) (by kernel_rfl) (by kernel_rfl) (by kernel_rfl) (by rfl) (fun _ _ _ h => h) hHeld ?_
      (try simp only [putA, putB, putC, putD])
      refine wpAnyH_skipD 22 25 (by kernel_rfl) (by kernel_rfl) (by kernel_rfl) (by kernel_rfl) (by rfl) (fun _ _ _ h => h) hHeld ?_
      (try simp only [putA, putB, putC, putD])
      refine wpAnyH_skipD 23 26 (by kernel_rfl) (by kernel_rfl) (by kernel_rfl) (by kernel_rfl) (by rfl) (fun _ _ _ h => h) hHeld ?_
      (try simp only [putA, putB, putC, putD])
      refine wpAnyH_skipD 24 27 (by kernel_rfl) (by kernel_rfl) (by kernel_rfl) (by kernel_rfl) (by rfl) (fun _ _ _ h => h) hHeld ?_
      (try simp only [putA, putB, putC, putD])
      refine wpAnyH_skipD 25 28 (by kernel_rfl) (by kernel_rfl) (by kernel_rfl) (by kernel_rfl) (by rfl) (fun _ _ _ h => h) hHeld ?_
      (try simp only [putA, putB, putC, putD])
      refine wpAnyH_skipD 26 29 (by kernel_rfl) (by kernel_rfl) (by kernel_rfl) (by kernel_rfl) (by rfl) (fun _ _ _ h => h) hHeld ?_
      (try simp only [putA, putB, putC, putD])
      refine tkD 27 30 (v := ?_) ?_ hHeld ?_
      rotate_left 1
      (intro W hSw; (try dsimp only at hSw); go_simp; try with_reducible rfl)
      (try simp only [putA, putB, putC, putD])
      refine tkD 28 31 (v := ?_) ?_ hHeld ?_
      rotate_left 1
      (intro W hSw; (try dsimp only at hSw); go_simp; try with_reducible rfl)
      (try simp only [putA, putB, putC, putD])
      refine wpAnyH_skipD 29 32 (by kernel_rfl) (by kernel_rfl) (by kernel_rfl) (by kernel_rfl) (by rfl) (fun _ _ _ h => h) hHeld ?_
      (try simp only [putA, putB, putC, putD])
      refine wpAnyH_skipD 30 33 (by kernel_rfl) (by kernel_rfl) (by kernel_rfl) (by kernel_rfl) (by rfl) (fun _ _ _ h => h) hHeld ?_
      (try simp only [putA, putB, putC, putD])
      refine wpAnyH_skipD 31 34 (by kernel_rfl) (by kernel_rfl) (by kernel_rfl) (by kernel_rfl) (by rfl) (fun _ _ _ h => h) hHeld ?_
      (try simp only [putA, putB, putC, putD])
      refine wpAnyH_skipD 32 35 (by kernel_rfl) (by kernel_rfl) (by kernel_rfl) (by kernel_rfl) (by rfl) (fun _ _ _ h => h) hHeld ?_
      (try simp only [putA, putB, putC, putD])
      refine tkD 33 36 (v := ?_) ?_ hHeld ?_
      rotate_left 1
      (intro W hSw; (try dsimp only at hSw); go_simp; try with_reducible rfl)
      (try simp only [putA, putB, putC, putD])
      refine tkD 34 37 (v := ?_) ?_ hHeld ?_
      rotate_left 1
      (intro W hSw; (try dsimp only at hSw); go_simp; try with_reducible rfl)
      (try simp only [putA, putB, putC, putD])
      refine wpAnyH_skipD 35 38 (by kernel_rfl) (by kernel_rfl) (by kernel_rfl) (by kernel_rfl) (by rfl) (fun _ _ _ h => h) hHeld ?_
      (try simp only [putA, putB, putC, putD])
      refine wpAnyH_skipD 36 39 (by kernel_rfl) (by kernel_rfl) (by kernel_rfl) (by kernel_rfl) (by rfl) (fun _ _ _ h => h) hHeld ?_
      (try simp only [putA, putB, putC, putD])
      refine wpAnyH_skipD 37 40 (by kernel_rfl) (by kernel_rfl) (by kernel_rfl) (by kernel_rfl) (by rfl) (fun _ _ _ h => h) hHeld ?_
      (try simp only [putA, putB, putC, putD])
      refine wpAnyH_skipD 38 41 (by kernel_rfl) (by kernel_rfl) (by kernel_rfl) (by kernel_rfl) (by rfl) (fun _ _ _ h => h) hHeld ?_
      (try simp only [putA, putB, putC, putD])
      refine wpAnyH_skipD 39 42 (by kernel_rfl) (by kernel_rfl) (by kernel_rfl) (by kernel_rfl) (by rfl) (fun _ _ _ h => h) hHeld ?_
      (try simp only [putA, putB, putC, putD])
      refine tkD 40 43 (v := ?_) ?_ hHeld ?_
      rotate_left 1
      (intro W hSw; (try dsimp only at hSw); go_simp; try with_reducible rfl)
      (try simp only [putA, putB, putC, putD])
      refine tkD 41 44 (v := ?_) ?_ hHeld ?_
      rotate_left 1
      (intro W hSw; (try dsimp only at hSw); go_simp; try with_reducible rfl)
      (try simp only [putA, putB, putC, putD])
      refine wpAnyH_skipD 42 45 (by kernel_rfl) (by kernel_rfl) (by kernel_rfl) (by kernel_rfl) (by rfl) (fun _ _ _ h => h) hHeld ?_
      (try simp only [putA, putB, putC, putD])
      refine wpAnyH_skipD 43 46 (by kernel_rfl) (by kernel_rfl) (by kernel_rfl) (by kernel_rfl) (by rfl) (fun _ _ _ h => h) hHeld ?_
      (try simp only [putA, putB, putC, putD])
      refine wpAnyH_skipD 44 47 (by kernel_rfl) (by kernel_rfl) (by kernel_rfl) (by kernel_rfl) (by rfl) (fun _ _ _ h => h) hHeld ?_
      (try simp only [putA, putB, putC, putD])
      refine wpAnyH_skipD 45 48 (by kernel_rfl) (by kernel_rfl) (by kernel_rfl) (by kernel_rfl) (by rfl) (fun _ _ _ h => h) hHeld ?_
      (try simp only [putA, putB, putC, putD])
      refine wpAnyH_skipD 46 49 (by kernel_rfl) (by kernel_rfl) (by kernel_rfl) (by kernel_rfl) (by rfl) (fun _ _ _ h => h) hHeld ?_
      (try simp only [putA, putB, putC, putD])
      refine tkD 47 50 (v := ?_) ?_ hHeld ?_
      rotate_left 1
      (intro W hSw; (try dsimp only at hSw); go_simp; try with_reducible rfl)
      (try simp only [putA, putB, putC, putD])
      refine wpAnyH_done (by kernel_rfl) ?_ _
      clear hHeld B1
      go_wp2
      go_ret
      exact ⟨retI (show ((40 : Nat) : Int) = rCEngineN c by simp only [rCEngineN, rCEngineB, H0, H1, Bool.true_and, Bool.false_and, Bool.false_eq_true, if_false]; rfl), by repeat (first | exact Below.refl _ _ | assumption | refine Below.setCell ?_ (by first | omega | (simp; done) | (simp; omega)) _ | refine Below.alloc ?_ (by first | omega | (simp; done) | (simp; omega)) _ | refine below_drewN ?_ _ | refine Below.drew ?_ | refine Below.trans ?_ (Below.mono (by assumption) (by first | omega | (simp; done) | (simp; omega))))⟩
    case true =>
      refine tkD 10 13 (v := ?_) ?_ hHeld ?_
      rotate_left 1
      (intro W hSw; (try dsimp only at hSw); go_simp; try with_reducible rfl)
      (try simp only [putA, putB, putC, putD])
      refine tkD 11 14 (v := ?_) ?_ hHeld ?_
      rotate_left 1
      (intro W hSw; (try dsimp only at hSw); go_simp; try with_reducible rfl)
      (try simp only [putA, putB, putC, putD])
      refine tkD 12 15 (v := ?_) ?_ hHeld ?_
      rotate_left 1
      (intro W hSw; (try dsimp only at hSw); go_simp; try with_reducible rfl)
      (try simp only [putA, putB, putC, putD])
      refine tkD 13 16 (v := ?_) ?_ hHeld ?_
      rotate_left 1
      (intro W hSw; (try dsimp only at hSw); go_simp; try with_reducible rfl)
      (try simp only [putA, putB, putC, putD])
      refine tkD 14 17 (v := ?_) ?_ hHeld ?_
      rotate_left 1
      (intro W hSw; (try dsimp only at hSw); go_simp; try with_reducible rfl)
      (try simp only [putA, putB, putC, putD])
      refine tkC 15 18 (fun W _ => rCWhole_any (32) (137438953472) (by decide +kernel) W) hHeld ?_
      (try simp only [putA, putB, putC, putD])
      refine tkC 16 19 (fun W _ => rCWhole_any (512) (2199023255552) (by decide +kernel) W) hHeld ?_
      (try simp only [putA, putB, putC, putD])
      refine tkC 17 20 (fun W _ => rCIn_any (c.f 54) (137438953472) (2199023255552) W) hHeld ?_
      (try simp only [putA, putB, putC, putD])
      cases H2 : inC (137438953472) (2199023255552) (c.f 54)
      case false =>
        refine tkD 18 21 (v := ?_) ?_ hHeld ?_
        rotate_left 1
        (intro W hSw; (try dsimp only at hSw); go_simp; try with_reducible rfl)
        (try simp only [putA, putB, putC, putD])
        refine tkD 19 22 (v := ?_) ?_ hHeld ?_
        rotate_left 1
        (intro W hSw; (try dsimp only at hSw); go_simp; try with_reducible rfl)
        (try simp only [putA, putB, putC, putD])
        refine tkD 20 23 (v := ?_) ?_ hHeld ?_
        rotate_left 1
        (intro W hSw; (try dsimp only at hSw); go_simp; try with_reducible rfl)
        (try simp only [putA, putB, putC, putD])
        refine wpAnyH_skipD 21 24 (by kernel_rfl) (by kernel_rfl) (by kernel_rfl) (by kernel_rfl) (by rfl) (fun _ _ _ h => h) hHeld ?_
        (try simp only [putA, putB, putC, putD])
        refine wpAnyH_skipD 22 25 (by kernel_rfl) (by kernel_rfl) (by kernel_rfl) (by kernel_rfl) (by rfl) (fun _ _ _ h => h) hHeld ?_
        (try simp only [putA, putB, putC, putD])
        refine wpAnyH_skipD 23 26 (by kernel_rfl) (by kernel_rfl) (by kernel_rfl) (by kernel_rfl) (by rfl) (fun _ _ _ h => h) hHeld ?_
        (try simp only [putA, putB, putC, putD])
        refine wpAnyH_skipD 24 27 (by kernel_rfl) (by kernel_rfl) (by kernel_rfl) (by kernel_rfl) (by rfl) (fun _ _ _ h => h) hHeld ?_
        (try simp only [putA, putB, putC, putD])
        refine wpAnyH_skipD 25 28 (by kernel_rfl) (by kernel_rfl) (by kernel_rfl) (by kernel_rfl) (by rfl) (fun _ _ _ h => h) hHeld ?_
        (try simp only [putA, putB, putC, putD])
        refine wpAnyH_skipD 26 29 (by kernel_rfl) (by kernel_rfl) (by kernel_rfl) (by kernel_rfl) (by rfl) (fun _ _ _ h => h) hHeld ?_
        (try simp only [putA, putB, putC, putD])
        refine tkD 27 30 (v := ?_) ?_ hHeld ?_
        rotate_left 1
        (intro W hSw; (try dsimp only at hSw); go_simp; try with_reducible rfl)
        (try simp only [putA, putB, putC, putD])
        refine tkD 28 31 (v := ?_) ?_ hHeld ?_
        rotate_left 1
        (intro W hSw; (try dsimp only at hSw); go_simp; try with_reducible rfl)
        (try simp only [putA, putB, putC, putD])
        refine wpAnyH_skipD 29 32 (by kernel_rfl) (by kernel_rfl) (by kernel_rfl) (by kernel_rfl) (by rfl) (fun _ _ _ h => h) hHeld ?_
        (try simp only [putA, putB, putC, putD])
        refine wpAnyH_skipD 30 33 (by kernel_rfl) (by kernel_rfl) (by kernel_rfl) (by kernel_rfl) (by rfl) (fun _ _ _ h => h) hHeld ?_
        (try simp only [putA, putB, putC, putD])
        refine wpAnyH_skipD 31 34 (by kernel_rfl) (by kernel_rfl) (by kernel_rfl) (by kernel_rfl) (by rfl) (fun _ _ _ h => h) hHeld ?_
        (try simp only [putA, putB, putC, putD])
        refine wpAnyH_skipD 32 35 (by kernel_rfl) (by kernel_rfl) (by kernel_rfl) (by kernel_rfl) (by rfl) (fun _ _ _ h => h) hHeld ?_
        (try simp only [putA, putB, putC, putD])
        refine tkD 33 36 (v := ?_) ?_ hHeld ?_
        rotate_left 1
        (intro W hSw; (try dsimp only at hSw); go_simp; try with_reducible rfl)
        (try simp only [putA, putB, putC, putD])
        refine tkD 34 37 (v := ?_) ?_ hHeld ?_
        rotate_left 1
        (intro W hSw; (try dsimp only at hSw); go_simp; try with_reducible rfl)
        (try simp only [putA, putB, putC, putD])
        refine wpAnyH_skipD 35 38 (by kernel_rfl) (by kernel_rfl) (by kernel_rfl) (by kernel_rfl) (by rfl) (fun _ _ _ h => h) hHeld ?_
        (try simp only [putA, putB, putC, putD])
        refine wpAnyH_skipD 36 39 (by kernel_rfl) (by kernel_rfl) (by kernel_rfl) (by kernel_rfl) (by rfl) (fun _ _ _ h => h) hHeld ?_
        (try simp only [putA, putB, putC, putD])
        refine wpAnyH_skipD 37 40 (by kernel_rfl) (by kernel_rfl) (by kernel_rfl) (by kernel_rfl) (by rfl) (fun _ _ _ h => h) hHeld ?_
        (try simp only [putA, putB, putC, putD])
        refine wpAnyH_skipD 38 41 (by kernel_rfl) (by kernel_rfl) (by kernel_rfl) (by kernel_rfl) (by rfl) (fun _ _ _ h => h) hHeld ?_
        (try simp only [putA, putB, putC, putD])
        refine wpAnyH_skipD 39 42 (by kernel_rfl) (by kernel_rfl) (by kernel_rfl) (by kernel_rfl) (by rfl) (fun _ _ _ h => h) hHeld ?_
        (try simp only [putA, putB, putC, putD])
        refine tkD 40 43 (v := ?_) ?_ hHeld ?_
        rotate_left 1
        (intro W hSw; (try dsimp only at hSw); go_simp; try with_reducible rfl)
        (try simp only [putA, putB, putC, putD])
        refine tkD 41 44 (v := ?_) ?_ hHeld ?_
        rotate_left 1
        (intro W hSw; (try dsimp only at hSw); go_simp; try with_reducible rfl)
        (try simp only [putA, putB, putC, putD])
        refine wpAnyH_skipD 42 45 (by kernel_rfl) (by kernel_rfl) (by kernel_rfl) (by kernel_rfl) (by rfl) (fun _ _ _ h => h) hHeld ?_
        (try simp only [putA, putB, putC, putD])
        refine wpAnyH_skipD 43 46 (by kernel_rfl) (by kernel_rfl) (by kernel_rfl) (by kernel_rfl) (by rfl) (fun _ _ _ h => h) hHeld ?_
        (try simp only [putA, putB, putC, putD])
        refine wpAnyH_skipD 44 47 (by kernel_rfl) (by kernel_rfl) (by kernel_rfl) (by kernel_rfl) (by rfl) (fun _ _ _ h => h) hHeld ?_
        (try simp only [putA, putB, putC, putD])
        refine wpAnyH_skipD 45 48 (by kernel_rfl) (by kernel_rfl) (by kernel_rfl) (by kernel_rfl) (by rfl) (fun _ _ _ h => h) hHeld ?_
        (try simp only [putA, putB, putC, putD])
        refine wpAnyH_skipD 46 49 (by kernel_rfl) (by kernel_rfl) (by kernel_rfl) (by kernel_rfl) (by rfl) (fun _ _ _ h => h) hHeld ?_
        (try simp only [putA, putB, putC, putD])
        refine tkD 47 50 (v := ?_) ?_ hHeld ?_
        rotate_left 1
        (intro W hSw; (try dsimp only at hSw); go_simp; try with_reducible rfl)
        (try simp only [putA, putB, putC, putD])
        refine wpAnyH_done (by kernel_rfl) ?_ _
        clear hHeld B1
        go_wp2
        go_ret
        exact ⟨retI (show ((40 : Nat) : Int) = rCEngineN c by simp only [rCEngineN, rCEngineB, H0, H1, H2, Bool.true_and, Bool.false_and, Bool.false_eq_true, if_false]; rfl), by repeat (first | exact Below.refl _ _ | assumption | refine Below.setCell ?_ (by first | omega | (simp; done) | (simp; omega)) _ | refine Below.alloc ?_ (by first | omega | (simp; done) | (simp; omega)) _ | refine below_drewN ?_ _ | refine Below.drew ?_ | refine Below.trans ?_ (Below.mono (by assumption) (by first | omega | (simp; done) | (simp; omega))))⟩
      case true =>
        refine tkD 18 21 (v := ?_) ?_ hHeld ?_
        rotate_left 1
        (intro W hSw; (try dsimp only at hSw); go_simp; try with_reducible rfl)
        (try simp only [putA, putB, putC, putD])
        refine tkD 19 22 (v := ?_) ?_ hHeld ?_
        rotate_left 1
        (intro W hSw; (try dsimp only at hSw); go_simp; try with_reducible rfl)
        (try simp only [putA, putB, putC, putD])
        refine tkD 20 23 (v := ?_) ?_ hHeld ?_
        rotate_left 1
        (intro W hSw; (try dsimp only at hSw); go_simp; try with_reducible rfl)
        (try simp only [putA, putB, putC, putD])
        refine tkD 21 24 (v := ?_) ?_ hHeld ?_
        rotate_left 1
        (intro W hSw; (try dsimp only at hSw); go_simp; try with_reducible rfl)
        (try simp only [putA, putB, putC, putD])
        refine tkD 22 25 (v := ?_) ?_ hHeld ?_
        rotate_left 1
        (intro W hSw; (try dsimp only at hSw); go_simp; try with_reducible rfl)
        (try simp only [putA, putB, putC, putD])
        refine tkC 23 26 (fun W _ => rCWhole_any (64) (274877906944) (by decide +kernel) W) hHeld ?_
        (try simp only [putA, putB, putC, putD])
        refine tkC 24 27 (fun W _ => rCWhole_any (2048) (8796093022208) (by decide +kernel) W) hHeld ?_
        (try simp only [putA, putB, putC, putD])
        refine tkC 25 28 (fun W _ => rCIn_any (c.f 55) (274877906944) (8796093022208) W) hHeld ?_
        (try simp only [putA, putB, putC, putD])
        cases H3 : inC (274877906944) (8796093022208) (c.f 55)
        case false =>
          refine tkD 26 29 (v := ?_) ?_ hHeld ?_
          rotate_left 1
          (intro W hSw; (try dsimp only at hSw); go_simp; try with_reducible rfl)
          (try simp only [putA, putB, putC, putD])
          refine tkD 27 30 (v := ?_) ?_ hHeld ?_
          rotate_left 1
          (intro W hSw; (try dsimp only at hSw); go_simp; try with_reducible rfl)
          (try simp only [putA, putB, putC, putD])
          refine tkD 28 31 (v := ?_) ?_ hHeld ?_
          rotate_left 1
          (intro W hSw; (try dsimp only at hSw); go_simp; try with_reducible rfl)
          (try simp only [putA, putB, putC, putD])
          refine wpAnyH_skipD 29 32 (by kernel_rfl) (by kernel_rfl) (by kernel_rfl) (by kernel_rfl) (by rfl) (fun _ _ _ h => h) hHeld ?_
          (try simp only [putA, putB, putC, putD])
          refine wpAnyH_skipD 30 33 (by kernel_rfl) (by kernel_rfl) (by kernel_rfl) (by kernel_rfl) (by rfl) (fun _ _ _ h => h) hHeld ?_
          (try simp only [putA, putB, putC, putD])
          refine wpAnyH_skipD 31 34 (by kernel_rfl) (by kernel_rfl) (by kernel_rfl) (by kernel_rfl) (by rfl) (fun _ _ _ h => h) hHeld ?_
          (try simp only [putA, putB, putC, putD])
          refine wpAnyH_skipD 32 35 (by kernel_rfl) (by kernel_rfl) (by kernel_rfl) (by kernel_rfl) (by rfl) (fun _ _ _ h => h) hHeld ?_
          (try simp only [putA, putB, putC, putD])
          refine tkD 33 36 (v := ?_) ?_ hHeld ?_
          rotate_left 1
          (intro W hSw; (try dsimp only at hSw); go_simp; try with_reducible rfl)
          (try simp only [putA, putB, putC, putD])
          refine tkD 34 37 (v := ?_) ?_ hHeld ?_
          rotate_left 1
          (intro W hSw; (try dsimp only at hSw); go_simp; try with_reducible rfl)
          (try simp only [putA, putB, putC, putD])
          refine wpAnyH_skipD 35 38 (by kernel_rfl) (by kernel_rfl) (by kernel_rfl) (by kernel_rfl) (by rfl) (fun _ _ _ h => h) hHeld ?_
          (try simp only [putA, putB, putC, putD])
          refine wpAnyH_skipD 36 39 (by kernel_rfl) (by kernel_rfl) (by kernel_rfl) (by kernel_rfl) (by rfl) (fun _ _ _ h => h) hHeld ?_
          (try simp only [putA, putB, putC, putD])
          refine wpAnyH_skipD 37 40 (by kernel_rfl) (by kernel_rfl) (by kernel_rfl) (by kernel_rfl) (by rfl) (fun _ _ _ h => h) hHeld ?_
          (try simp only [putA, putB, putC, putD])
          refine wpAnyH_skipD 38 41 (by kernel_rfl) (by kernel_rfl) (by kernel_rfl) (by kernel_rfl) (by rfl) (fun _ _ _ h => h) hHeld ?_
          (try simp only [putA, putB, putC, putD])
          refine wpAnyH_skipD 39 42 (by kernel_rfl) (by kernel_rfl) (by kernel_rfl) (by kernel_rfl) (by rfl) (fun _ _ _ h => h) hHeld ?_
          (try simp only [putA, putB, putC, putD])
          refine tkD 40 43 (v := ?_) ?_ hHeld ?_
          rotate_left 1
          (intro W hSw; (try dsimp only at hSw); go_simp; try with_reducible rfl)
          (try simp only [putA, putB, putC, putD])
          refine tkD 41 44 (v := ?_) ?_ hHeld ?_
          rotate_left 1
          (intro W hSw; (try dsimp only at hSw); go_simp; try with_reducible rfl)
          (try simp only [putA, putB, putC, putD])
          refine wpAnyH_skipD 42 45 (by kernel_rfl) (by kernel_rfl) (by kernel_rfl) (by kernel_rfl) (by rfl) (fun _ _ _ h => h) hHeld ?_
          (try simp only [putA, putB, putC, putD])
          refine wpAnyH_skipD 43 46 (by kernel_rfl) (by kernel_rfl) (by kernel_rfl) (by kernel_rfl) (by rfl) (fun _ _ _ h => h) hHeld ?_
          (try simp only [putA, putB, putC, putD])
          refine wpAnyH_skipD 44 47 (by kernel_rfl) (by kernel_rfl) (by kernel_rfl) (by kernel_rfl) (by rfl) (fun _ _ _ h => h) hHeld ?_
          (try simp only [putA, putB, putC, putD])
          refine wpAnyH_skipD 45 48 (by kernel_rfl) (by kernel_rfl) (by kernel_rfl) (by kernel_rfl) (by rfl) (fun _ _ _ h => h) hHeld ?_
          (try simp only [putA, putB, putC, putD])
          refine wpAnyH_skipD 46 49 (by kernel_rfl) (by kernel_rfl) (by kernel_rfl) (by kernel_rfl) (by rfl) (fun _ _ _ h => h) hHeld ?_
          (try simp only [putA, putB, putC, putD])
          refine tkD 47 50 (v := ?_) ?_ hHeld ?_
          rotate_left 1
          (intro W hSw; (try dsimp only at hSw); go_simp; try with_reducible rfl)
          (try simp only [putA, putB, putC, putD])
          refine wpAnyH_done (by kernel_rfl) ?_ _
          clear hHeld B1
          go_wp2
          go_ret
          exact ⟨retI (show ((40 : Nat) : Int) = rCEngineN c by simp only [rCEngineN, rCEngineB, H0, H1, H2, H3, Bool.true_and, Bool.false_and, Bool.false_eq_true, if_false]; rfl), by repeat (first | exact Below.refl _ _ | assumption | refine Below.setCell ?_ (by first | omega | (simp; done) | (simp; omega)) _ | refine Below.alloc ?_ (by first | omega | (simp; done) | (simp; omega)) _ | refine below_drewN ?_ _ | refine Below.drew ?_ | refine Below.trans ?_ (Below.mono (by assumption) (by first | omega | (simp; done) | (simp; omega))))⟩
        case true =>
          refine tkD 26 29 (v := ?_) ?_ hHeld ?_
          rotate_left 1
          (intro W hSw; (try dsimp only at hSw); go_simp; try with_reducible rfl)
          (try simp only [putA, putB, putC, putD])
          refine tkD 27 30 (v := ?_) ?_ hHeld ?_
          rotate_left 1
          (intro W hSw; (try dsimp only at hSw); go_simp; try with_reducible rfl)
          (try simp only [putA, putB, putC, putD])
          refine tkD 28 31 (v := ?_) ?_ hHeld ?_
          rotate_left 1
          (intro W hSw; (try dsimp only at hSw); go_simp; try with_reducible rfl)
          (try simp only [putA, putB, putC, putD])
          refine tkD 29 32 (v := ?_) ?_ hHeld ?_
          rotate_left 1
          (intro W hSw; (try dsimp only at hSw); go_simp; try with_reducible rfl)
          (try simp only [putA, putB, putC, putD])
          refine tkD 30 33 (v := ?_) ?_ hHeld ?_
          rotate_left 1
          (intro W hSw; (try dsimp only at hSw); go_simp; try with_reducible rfl)
          (try simp only [putA, putB, putC, putD])
          refine tkC 31 34 (fun W _ => rCIn_any (c.f 56) (0) (4294967296) W) hHeld ?_
          (try simp only [putA, putB, putC, putD])
          cases H4 : inC (0) (4294967296) (c.f 56)
          case false =>
            refine tkD 32 35 (v := ?_) ?_ hHeld ?_
            rotate_left 1
            (intro W hSw; (try dsimp only at hSw); go_simp; try with_reducible rfl)
            (try simp only [putA, putB, putC, putD])
            refine tkD 33 36 (v := ?_) ?_ hHeld ?_
            rotate_left 1
            (intro W hSw; (try dsimp only at hSw); go_simp; try with_reducible rfl)
            (try simp only [putA, putB, putC, putD])
            refine tkD 34 37 (v := ?_) ?_ hHeld ?_
            rotate_left 1
            (intro W hSw; (try dsimp only at hSw); go_simp; try with_reducible rfl)
            (try simp only [putA, putB, putC, putD])
            refine wpAnyH_skipD 35 38 (by kernel_rfl) (by kernel_rfl) (by kernel_rfl) (by kernel_rfl) (by rfl) (fun _ _ _ h => h) hHeld ?_
            (try simp only [putA, putB, putC, putD])
            refine wpAnyH_skipD 36 39 (by kernel_rfl) (by kernel_rfl) (by kernel_rfl) (by kernel_rfl) (by rfl) (fun _ _ _ h => h) hHeld ?_
            (try simp only [putA, putB, putC, putD])
            refine wpAnyH_skipD 37 40 (by kernel_rfl) (by kernel_rfl) (by kernel_rfl) (by kernel_rfl) (by rfl) (fun _ _ _ h => h) hHeld ?_
            (try simp only [putA, putB, putC, putD])
            refine wpAnyH_skipD 38 41 (by kernel_rfl) (by kernel_rfl) (by kernel_rfl) (by kernel_rfl) (by rfl) (fun _ _ _ h => h) hHeld ?_
            (try simp only [putA, putB, putC, putD])
            refine wpAnyH_skipD 39 42 (by kernel_rfl) (by kernel_rfl) (by kernel_rfl) (by kernel_rfl) (by rfl) (fun _ _ _ h => h) hHeld ?_
            (try simp only [putA, putB, putC, putD])
            refine tkD 40 43 (v := ?_) ?_ hHeld ?_
            rotate_left 1
            (intro W hSw; (try dsimp only at hSw); go_simp; try with_reducible rfl)
            (try simp only [putA, putB, putC, putD])
            refine tkD 41 44 (v := ?_) ?_ hHeld ?_
            rotate_left 1
            (intro W hSw; (try dsimp only at hSw); go_simp; try with_reducible rfl)
            (try simp only [putA, putB, putC, putD])
            refine wpAnyH_skipD 42 45 (by kernel_rfl) (by kernel_rfl) (by kernel_rfl) (by kernel_rfl) (by rfl) (fun _ _ _ h => h) hHeld ?_
            (try simp only [putA, putB, putC, putD])
            refine wpAnyH_skipD 43 46 (by kernel_rfl) (by kernel_rfl) (by kernel_rfl) (by kernel_rfl) (by rfl) (fun _ _ _ h => h) hHeld ?_
            (try simp only [putA, putB, putC, putD])
            refine wpAnyH_skipD 44 47 (by kernel_rfl) (by kernel_rfl) (by kernel_rfl) (by kernel_rfl) (by rfl) (fun _ _ _ h => h) hHeld ?_
            (try simp only [putA, putB, putC, putD])
            refine wpAnyH_skipD 45 48 (by kernel_rfl) (by kernel_rfl) (by kernel_rfl) (by kernel_rfl) (by rfl) (fun _ _ _ h => h) hHeld ?_
            (try simp only [putA, putB, putC, putD])
            refine wpAnyH_skipD 46 49 (by kernel_rfl) (by kernel_rfl) (by kernel_rfl) (by kernel_rfl) (by rfl) (fun _ _ _ h => h) hHeld ?_
            (try simp only [putA, putB, putC, putD])
            refine tkD 47 50 (v := ?_) ?_ hHeld ?_
            rotate_left 1
            (intro W hSw; (try dsimp only at hSw); go_simp; try with_reducible rfl)
            (try simp only [putA, putB, putC, putD])
            refine wpAnyH_done (by kernel_rfl) ?_ _
            clear hHeld B1
            go_wp2
            go_ret
            exact ⟨retI (show ((40 : Nat) : Int) = rCEngineN c by simp only [rCEngineN, rCEngineB, H0, H1, H2, H3, H4, Bool.true_and, Bool.false_and, Bool.false_eq_true, if_false]; rfl), by repeat (first | exact Below.refl _ _ | assumption | refine Below.setCell ?_ (by first | omega | (simp; done) | (simp; omega)) _ | refine Below.alloc ?_ (by first | omega | (simp; done) | (simp; omega)) _ | refine below_drewN ?_ _ | refine Below.drew ?_ | refine Below.trans ?_ (Below.mono (by assumption) (by first | omega | (simp; done) | (simp; omega))))⟩
          case true =>
            refine tkD 32 35 (v := ?_) ?_ hHeld ?_
            rotate_left 1
            (intro W hSw; (try dsimp only at hSw); go_simp; try with_reducible rfl)
            (try simp only [putA, putB, putC, putD])
            refine tkD 33 36 (v := ?_) ?_ hHeld ?_
            rotate_left 1
            (intro W hSw; (try dsimp only at hSw); go_simp; try with_reducible rfl)
            (try simp only [putA, putB, putC, putD])
            refine tkD 34 37 (v := ?_) ?_ hHeld ?_
            rotate_left 1
            (intro W hSw; (try dsimp only at hSw); go_simp; try with_reducible rfl)
            (try simp only [putA, putB, putC, putD])
            refine tkD 35 38 (v := ?_) ?_ hHeld ?_
            rotate_left 1
            (intro W hSw; (try dsimp only at hSw); go_simp; try with_reducible rfl)
            (try simp only [putA, putB, putC, putD])
            refine tkD 36 39 (v := ?_) ?_ hHeld ?_
            rotate_left 1
            (intro W hSw; (try dsimp only at hSw); go_simp; try with_reducible rfl)
            (try simp only [putA, putB, putC, putD])
            refine tkC 37 40 (fun W _ => rCWhole_any (256) (1099511627776) (by decide +kernel) W) hHeld ?_
            (try simp only [putA, putB, putC, putD])
            refine tkC 38 41 (fun W _ => rCIn_any (c.f 57) (4294967296) (1099511627776) W) hHeld ?_
            (try simp only [putA, putB, putC, putD])
            cases H5 : inC (4294967296) (1099511627776) (c.f 57)
            case false =>
              refine tkD 39 42 (v := ?_) ?_ hHeld ?_
              rotate_left 1
              (intro W hSw; (try dsimp only at hSw); go_simp; try with_reducible rfl)
              (try simp only [putA, putB, putC, putD])
              refine tkD 40 43 (v := ?_) ?_ hHeld ?_
              rotate_left 1
              (intro W hSw; (try dsimp only at hSw); go_simp; try with_reducible rfl)
              (try simp only [putA, putB, putC, putD])
              refine tkD 41 44 (v := ?_) ?_ hHeld ?_
              rotate_left 1
              (intro W hSw; (try dsimp only at hSw); go_simp; try with_reducible rfl)
              (try simp only [putA, putB, putC, putD])
              refine wpAnyH_skipD 42 45 (by kernel_rfl) (by kernel_rfl) (by kernel_rfl) (by kernel_rfl) (by rfl) (fun _ _ _ h => h) hHeld ?_
              (try simp only [putA, putB, putC, putD])
              refine wpAnyH_skipD 43 46 (by kernel_rfl) (by kernel_rfl) (by kernel_rfl) (by kernel_rfl) (by rfl) (fun _ _ _ h => h) hHeld ?_
              (try simp only [putA, putB, putC, putD])
              refine wpAnyH_skipD 44 47 (by kernel_rfl) (by kernel_rfl) (by kernel_rfl) (by kernel_rfl) (by rfl) (fun _ _ _ h => h) hHeld ?_
              (try simp only [putA, putB, putC, putD])
              refine wpAnyH_skipD 45 48 (by kernel_rfl) (by kernel_rfl) (by kernel_rfl) (by kernel_rfl) (by rfl) (fun _ _ _ h => h) hHeld ?_
              (try simp only [putA, putB, putC, putD])
              refine wpAnyH_skipD 46 49 (by kernel_rfl) (by kernel_rfl) (by kernel_rfl) (by kernel_rfl) (by rfl) (fun _ _ _ h => h) hHeld ?_
              (try simp only [putA, putB, putC, putD])
              refine tkD 47 50 (v := ?_) ?_ hHeld ?_
              rotate_left 1
              (intro W hSw; (try dsimp only at hSw); go_simp; try with_reducible rfl)
              (try simp only [putA, putB, putC, putD])
              refine wpAnyH_done (by kernel_rfl) ?_ _
              clear hHeld B1
              go_wp2
              go_ret
              exact ⟨retI (show ((40 : Nat) : Int) = rCEngineN c by simp only [rCEngineN, rCEngineB, H0, H1, H2, H3, H4, H5, Bool.true_and, Bool.false_and, Bool.false_eq_true, if_false]; rfl), by repeat (first | exact Below.refl _ _ | assumption | refine Below.setCell ?_ (by first | omega | (simp; done) | (simp; omega)) _ | refine Below.alloc ?_ (by first | omega | (simp; done) | (simp; omega)) _ | refine below_drewN ?_ _ | refine Below.drew ?_ | refine Below.trans ?_ (Below.mono (by assumption) (by first | omega | (simp; done) | (simp; omega))))⟩
            case true =>
              refine tkD 39 42 (v := ?_) ?_ hHeld ?_
              rotate_left 1
              (intro W hSw; (try dsimp only at hSw); go_simp; try with_reducible rfl)
              (try simp only [putA, putB, putC, putD])
              refine tkD 40 43 (v := ?_) ?_ hHeld ?_
              rotate_left 1
              (intro W hSw; (try dsimp only at hSw); go_simp; try with_reducible rfl)
              (try simp only [putA, putB, putC, putD])
              refine tkD 41 44 (v := ?_) ?_ hHeld ?_
              rotate_left 1
              (intro W hSw; (try dsimp only at hSw); go_simp; try with_reducible rfl)
              (try simp only [putA, putB, putC, putD])
              refine tkD 42 45 (v := ?_) ?_ hHeld ?_
              rotate_left 1
              (intro W hSw; (try dsimp only at hSw); go_simp; try with_reducible rfl)
              (try simp only [putA, putB, putC, putD])
              refine tkD 43 46 (v := ?_) ?_ hHeld ?_
              rotate_left 1
              (intro W hSw; (try dsimp only at hSw); go_simp; try with_reducible rfl)
              (try simp only [putA, putB, putC, putD])
              refine tkC 44 47 (fun W _ => rCWhole_any (4096) (17592186044416) (by decide +kernel) W) hHeld ?_
              (try simp only [putA, putB, putC, putD])
              refine tkC 45 48 (fun W _ => rCIn_any (c.f 58) (0) (17592186044416) W) hHeld ?_
              (try simp only [putA, putB, putC, putD])
              cases H6 : inC (0) (17592186044416) (c.f 58)
              case false =>
                refine tkD 46 49 (v := ?_) ?_ hHeld ?_
                rotate_left 1
                (intro W hSw; (try dsimp only at hSw); go_simp; try with_reducible rfl)
                (try simp only [putA, putB, putC, putD])
                refine tkD 47 50 (v := ?_) ?_ hHeld ?_
                rotate_left 1
                (intro W hSw; (try dsimp only at hSw); go_simp; try with_reducible rfl)
                (try simp only [putA, putB, putC, putD])
                refine wpAnyH_done (by kernel_rfl) ?_ _
                clear hHeld B1
                go_wp2
                go_ret
                exact ⟨retI (show ((40 : Nat) : Int) = rCEngineN c by simp only [rCEngineN, rCEngineB, H0, H1, H2, H3, H4, H5, H6, Bool.true_and, Bool.false_and, Bool.false_eq_true, if_false]; rfl), by repeat (first | exact Below.refl _ _ | assumption | refine Below.setCell ?_ (by first | omega | (simp; done) | (simp; omega)) _ | refine Below.alloc ?_ (by first | omega | (simp; done) | (simp; omega)) _ | refine below_drewN ?_ _ | refine Below.drew ?_ | refine Below.trans ?_ (Below.mono (by assumption) (by first | omega | (simp; done) | (simp; omega))))⟩
              case true =>
                refine tkD 46 49 (v := ?_) ?_ hHeld ?_
                rotate_left 1
                (intro W hSw; (try dsimp only at hSw); go_simp; try with_reducible rfl)
                (try simp only [putA, putB, putC, putD])
                refine tkD 47 50 (v := ?_) ?_ hHeld ?_
                rotate_left 1
                (intro W hSw; (try dsimp only at hSw); go_simp; try with_reducible rfl)
                (try simp only [putA, putB, putC, putD])
                refine wpAnyH_done (by kernel_rfl) ?_ _
                clear hHeld
                have ka := B1.out.c 55 _ rfl
                have kb := B1.out.c 54 _ rfl
                clear B1
                by_cases g : c.f 55 ≤ c.f 54
                · go_wp2
                  go_ret
                  exact ⟨retI (show ((41 : Nat) : Int) = rCEngineN c by simp only [rCEngineN, rCEngineB, H0, H1, H2, H3, H4, H5, H6, Bool.and_true, if_true, if_pos g]; rfl), by repeat (first | exact Below.refl _ _ | assumption | refine Below.setCell ?_ (by first | omega | (simp; done) | (simp; omega)) _ | refine Below.alloc ?_ (by first | omega | (simp; done) | (simp; omega)) _ | refine below_drewN ?_ _ | refine Below.drew ?_ | refine Below.trans ?_ (Below.mono (by assumption) (by first | omega | (simp; done) | (simp; omega))))⟩
                · go_wp2
                  go_ret
                  exact ⟨retI (show ((0 : Nat) : Int) = rCEngineN c by simp only [rCEngineN, rCEngineB, H0, H1, H2, H3, H4, H5, H6, Bool.and_true, if_true, if_neg (show ¬ (c.f 55 ≤ c.f 54) by omega)]; rfl), by repeat (first | exact Below.refl _ _ | assumption | refine Below.setCell ?_ (by first | omega | (simp; done) | (simp; omega)) _ | refine Below.alloc ?_ (by first | omega | (simp; done) | (simp; omega)) _ | refine below_drewN ?_ _ | refine Below.drew ?_ | refine Below.trans ?_ (Below.mono (by assumption) (by first | omega | (simp; done) | (simp; omega))))⟩
end Go.Proofs.Ytbpmbdnhfkfkhaa
