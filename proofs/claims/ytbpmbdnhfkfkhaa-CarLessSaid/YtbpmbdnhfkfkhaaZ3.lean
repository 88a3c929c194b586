/- The document's car: a wheel. -/
import Derived.Test.YtbpmbdnhfkfkhaaZ2
namespace Go.Proofs.Ytbpmbdnhfkfkhaa
open Go.RowKit
set_option linter.unusedVariables false
set_option linter.unusedSimpArgs false

/-- a wheel's cells -/
def wheelL (f : Nat → Int) (p q : Bool) : List Value := [.int .i64 (f 0), .int .i64 (f 1), .int .i64 (f 2), .int .i64 (f 3), .int .i64 (f 4), .int .i64 (f 5), .int .i64 (f 6), .int .i64 (f 7), .bool p, .bool q]
def wheelB (f : Nat → Int) : Bool := inC (-17179869184) (17179869184) (f 0) && (inC (-17179869184) (17179869184) (f 1) && (inC (-8589934592) (8589934592) (f 2) && (inC (536870912) (4294967296) (f 3) && (inC (536870912) (274877906944) (f 4) && (inC (4398046511104) (1125899906842624) (f 5) && (inC (67108864) (2147483648) (f 6) && (inC (0) (4503599627370496) (f 7))))))))
set_option maxRecDepth 100000 in
set_option maxHeartbeats 8000000 in
theorem rCWheel_any (f : Nat → Int) (p q : Bool) (w : World) : Calls Try.prog 26 #[.agg (wheelL f p q).toArray] w fun e w' => e = .returned (.bool (wheelB f)) ∧ Below w.heap.size w w' := by
  have B0 := BW.new w _ (wheelL f p q) 26 rfl
  have B1 := Lib.hid B0.drew
  clear B0
  go_enter Try.func26, Try.ntmps26
  go_wp2_with fail
  refine wp_region_held_drew (S := fun W => W.cell? ⟨w.heap.size, 0, none⟩ = some (.int .i64 (f 0)) ∧ W.cell? ⟨w.heap.size, 1, none⟩ = some (.int .i64 (f 1)) ∧ W.cell? ⟨w.heap.size, 2, none⟩ = some (.int .i64 (f 2)) ∧ W.cell? ⟨w.heap.size, 3, none⟩ = some (.int .i64 (f 3)) ∧ W.cell? ⟨w.heap.size, 4, none⟩ = some (.int .i64 (f 4)) ∧ W.cell? ⟨w.heap.size, 5, none⟩ = some (.int .i64 (f 5)) ∧ W.cell? ⟨w.heap.size, 6, none⟩ = some (.int .i64 (f 6)) ∧ W.cell? ⟨w.heap.size, 7, none⟩ = some (.int .i64 (f 7))) (by kernel_rfl) ⟨B1.out.c 0 _ rfl, B1.out.c 1 _ rfl, B1.out.c 2 _ rfl, B1.out.c 3 _ rfl, B1.out.c 4 _ rfl, B1.out.c 5 _ rfl, B1.out.c 6 _ rfl, B1.out.c 7 _ rfl⟩ (fun hHeld => ?_)
  clear B1
  refine tkD 0 3 (v := ?_) ?_ hHeld ?_
  rotate_left 1
  (intro W hSw; (try dsimp only at hSw); go_simp; try with_reducible rfl)
  (try simp only [putA, putB, putC, putD])
  refine tkD 1 4 (v := ?_) ?_ hHeld ?_
  rotate_left 1
  (intro W hSw; (try dsimp only at hSw); go_simp; try with_reducible rfl)
  (try simp only [putA, putB, putC, putD])
  refine tkD 2 5 (v := ?_) ?_ hHeld ?_
  rotate_left 1
  (intro W hSw; (try dsimp only at hSw); go_simp; try with_reducible rfl)
  (try simp only [putA, putB, putC, putD])
  refine tkC 3 6 (fun W _ => rCWhole_any (-4) (-17179869184) (by decide +kernel) W) hHeld ?_
  (try simp only [putA, putB, putC, putD])
  refine tkC 4 7 (fun W _ => rCWhole_any (4) (17179869184) (by decide +kernel) W) hHeld ?_
  (try simp only [putA, putB, putC, putD])
  refine tkC 5 8 (fun W _ => rCIn_any (f 0) (-17179869184) (17179869184) W) hHeld ?_
  (try simp only [putA, putB, putC, putD])
  cases H0 : inC (-17179869184) (17179869184) (f 0)
  case false =>
    refine tkD 6 9 (v := ?_) ?_ hHeld ?_
    rotate_left 1
    (intro W hSw; (try dsimp only at hSw); go_simp; try with_reducible rfl)
    (try simp only [putA, putB, putC, putD])
    refine wpAnyH_skipD 7 10 (by kernel_rfl) (by kernel_rfl) (by kernel_rfl) (by kernel_rfl) (by rfl) (fun _ _ _ h => h) hHeld ?_
    (try simp only [putA, putB, putC, putD])
    refine wpAnyH_skipD 8 11 (by kernel_rfl) (by kernel_rfl) (by kernel_rfl) (by kernel_rfl) (by rfl) (fun _ _ _ h => h) hHeld ?_
    (try simp only [putA, putB, putC, putD])
    refine wpAnyH_skipD 9 12 (by kernel_rfl) (by kernel_rfl) (by kernel_rfl) (by kernel_rfl) (by rfl) (fun _ _ _ h => h) hHeld ?_
    (try simp only [putA, putB, putC, putD])
    refine wpAnyH_skipD 10 13 (by kernel_rfl) (by kernel_rfl) (by kernel_rfl) (by kernel_rfl) (by rfl) (fun _ _ _ h => h) hHeld ?_
    (try simp only [putA, putB, putC, putD])
    refine wpAnyH_skipD 11 14 (by kernel_rfl) (by kernel_rfl) (by kernel_rfl) (by kernel_rfl) (by rfl) (fun _ _ _ h => h) hHeld ?_
    (try simp only [putA, putB, putC, putD])
    refine wpAnyH_skipD 12 15 (by kernel_rfl) (by kernel_rfl) (by kernel_rfl) (by kernel_rfl) (by rfl) (fun _ _ _ h => h) hHeld ?_
    (try simp only [putA, putB, putC, putD])
    refine tkD 13 16 (v := ?_) ?_ hHeld ?_
    rotate_left 1
    (intro W hSw; (try dsimp only at hSw); go_simp; try with_reducible rfl)
    (try simp only [putA, putB, putC, putD])
    refine tkD 14 17 (v := ?_) ?_ hHeld ?_
    rotate_left 1
    (intro W hSw; (try dsimp only at hSw); go_simp; try with_reducible rfl)
    (try simp only [putA, putB, putC, putD])
    refine wpAnyH_skipD 15 18 (by kernel_rfl) (by kernel_rfl) (by kernel_rfl) (by kernel_rfl) (by rfl) (fun _ _ _ h => h) hHeld ?_
    (try simp only [putA, putB, putC, putD])
    refine wpAnyH_skipD 16 19 (by kernel_rfl) (by kernel_rfl) (by kernel_rfl) (by kernel_rfl) (by rfl) (fun _ _ _ h => h) hHeld ?_
    (try simp only [putA, putB, putC, putD])
    refine wpAnyH_skipD 17 20 (by kernel_rfl) (by kernel_rfl) (by kernel_rfl) (by kernel_rfl) (by rfl) (fun _ _ _ h => h) hHeld ?_
    (try simp only [putA, putB, putC, putD])
    refine wpAnyH_skipD 18 21 (by kernel_rfl) (by kernel_rfl) (by kernel_rfl) (by kernel_rfl) (by rfl) (fun _ _ _ h => h) hHeld ?_
    (try simp only [putA, putB, putC, putD])
    refine wpAnyH_skipD 19 22 (by kernel_rfl) (by kernel_rfl) (by kernel_rfl) (by kernel_rfl) (by rfl) (fun _ _ _ h => h) hHeld ?_
    (try simp only [putA, putB, putC, putD])
    refine wpAnyH_skipD 20 23 (by kernel_rfl) (by kernel_rfl) (by kernel_rfl) (by kernel_rfl) (by rfl) (fun _ _ _ h => h) hHeld ?_
    (try simp only [putA, putB, putC, putD])
    refine tkD 21 24 (v := ?_) ?_ hHeld ?_
    rotate_left 1
    (intro W hSw; (try dsimp only at hSw); go_simp; try with_reducible rfl)
    (try simp only [putA, putB, putC, putD])
    refine tkD 22 25 (v := ?_) ?_ hHeld ?_
    rotate_left 1
    (intro W hSw; (try dsimp only at hSw); go_simp; try with_reducible rfl)
    (try simp only [putA, putB, putC, putD])
    refine wpAnyH_skipD 23 26 (by kernel_rfl) (by kernel_rfl) (by kernel_rfl) (by kernel_rfl) (by rfl) (fun _ _ _ h => h) hHeld ?_
    (try simp only [putA, putB, putC, putD])
    refine wpAnyH_skipD 24 27 (by kernel_rfl) (by kernel_rfl) (by kernel_rfl) (by kernel_rfl) (by rfl) (fun _ _ _ h => h) hHeld ?_
    (try simp only [putA, putB, putC, putD])
    refine wpAnyH_skipD 25 28 (by kernel_rfl) (by kernel_rfl) (by kernel_rfl) (by kernel_rfl) (by rfl) (fun _ _ _ h => h) hHeld ?_
    (try simp only [putA, putB, putC, putD])
    refine tkD 26 29 (v := ?_) ?_ hHeld ?_
    rotate_left 1
    (intro W hSw; (try dsimp only at hSw); go_simp; try with_reducible rfl)
    (try simp only [putA, putB, putC, putD])
    refine tkD 27 30 (v := ?_) ?_ hHeld ?_
    rotate_left 1
    (intro W hSw; (try dsimp only at hSw); go_simp; try with_reducible rfl)
    (try simp only [putA, putB, putC, putD])
    refine wpAnyH_skipD 28 31 (by kernel_rfl) (by kernel_rfl) (by kernel_rfl) (by kernel_rfl) (by rfl) (fun _ _ _ h => h) hHeld ?_
    (try simp only [putA, putB, putC, putD])
    refine wpAnyH_skipD 29 32 (by kernel_rfl) (by kernel_rfl) (by kernel_rfl) (by kernel_rfl) (by rfl) (fun _ _ _ h => h) hHeld ?_
    (try simp only [putA, putB, putC, putD])
    refine wpAnyH_skipD 30 33 (by kernel_rfl) (by kernel_rfl) (by kernel_rfl) (by kernel_rfl) (by rfl) (fun _ _ _ h => h) hHeld ?_
    (try simp only [putA, putB, putC, putD])
    refine wpAnyH_skipD 31 34 (by kernel_rfl) (by kernel_rfl) (by kernel_rfl) (by kernel_rfl) (by rfl) (fun _ _ _ h => h) hHeld ?_
    (try simp only [putA, putB, putC, putD])
    refine tkD 32 35 (v := ?_) ?_ hHeld ?_
    rotate_left 1
    (intro W hSw; (try dsimp only at hSw); go_simp; try with_reducible rfl)
    (try simp only [putA, putB, putC, putD])
    refine tkD 33 36 (v := ?_) ?_ hHeld ?_
    rotate_left 1
    (intro W hSw; (try dsimp only at hSw); go_simp; try with_reducible rfl)
    (try simp only [putA, putB, putC, putD])
    refine wpAnyH_skipD 34 37 (by kernel_rfl) (by kernel_rfl) (by kernel_rfl) (by kernel_rfl) (by rfl) (fun _ _ _ h => h) hHeld ?_
    (try simp only [putA, putB, putC, putD])
    refine wpAnyH_skipD 35 38 (by kernel_rfl) (by kernel_rfl) (by kernel_rfl) (by kernel_rfl) (by rfl) (fun _ _ _ h => h) hHeld ?_
    (try simp only [putA, putB, putC, putD])
    refine wpAnyH_skipD 36 39 (by kernel_rfl) (by kernel_rfl) (by kernel_rfl) (by kernel_rfl) (by rfl) (fun _ _ _ h => h) hHeld ?_
    (try simp only [putA, putB, putC, putD])
    refine wpAnyH_skipD 37 40 (by kernel_rfl) (by kernel_rfl) (by kernel_rfl) (by kernel_rfl) (by rfl) (fun _ _ _ h => h) hHeld ?_
    (try simp only [putA, putB, putC, putD])
    refine wpAnyH_skipD 38 41 (by kernel_rfl) (by kernel_rfl) (by kernel_rfl) (by kernel_rfl) (by rfl) (fun _ _ _ h => h) hHeld ?_
    (try simp only [putA, putB, putC, putD])
    refine tkD 39 42 (v := ?_) ?_ hHeld ?_
    rotate_left 1
    (intro W hSw; (try dsimp only at hSw); go_simp; try with_reducible rfl)
    (try simp only [putA, putB, putC, putD])
    refine tkD 40 43 (v := ?_) ?_ hHeld ?_
    rotate_left 1
    (intro W hSw; (try dsimp only at hSw); go_simp; try with_reducible rfl)
    (try simp only [putA, putB, putC, putD])
    refine wpAnyH_skipD 41 44 (by kernel_rfl) (by kernel_rfl) (by kernel_rfl) (by kernel_rfl) (by rfl) (fun _ _ _ h => h) hHeld ?_
    (try simp only [putA, putB, putC, putD])
    refine wpAnyH_skipD 42 45 (by kernel_rfl) (by kernel_rfl) (by kernel_rfl) (by kernel_rfl) (by rfl) (fun _ _ _ h => h) hHeld ?_
    (try simp only [putA, putB, putC, putD])
    refine wpAnyH_skipD 43 46 (by kernel_rfl) (by kernel_rfl) (by kernel_rfl) (by kernel_rfl) (by rfl) (fun _ _ _ h => h) hHeld ?_
    (try simp only [putA, putB, putC, putD])
    refine tkD 44 47 (v := ?_) ?_ hHeld ?_
    rotate_left 1
    (intro W hSw; (try dsimp only at hSw); go_simp; try with_reducible rfl)
    (try simp only [putA, putB, putC, putD])
    refine tkD 45 48 (v := ?_) ?_ hHeld ?_
    rotate_left 1
    (intro W hSw; (try dsimp only at hSw); go_simp; try with_reducible rfl)
    (try simp only [putA, putB, putC, putD])
    refine wpAnyH_skipD 46 49 (by kernel_rfl) (by kernel_rfl) (by kernel_rfl) (by kernel_rfl) (by rfl) (fun _ _ _ h => h) hHeld ?_
    (try simp only [putA, putB, putC, putD])
    refine wpAnyH_skipD 47 50 (by kernel_rfl) (by kernel_rfl) (by kernel_rfl) (by kernel_rfl) (by rfl) (fun _ _ _ h => h) hHeld ?_
    (try simp only [putA, putB, putC, putD])
    refine wpAnyH_skipD 48 51 (by kernel_rfl) (by kernel_rfl) (by kernel_rfl) (by kernel_rfl) (by rfl) (fun _ _ _ h => h) hHeld ?_
    (try simp only [putA, putB, putC, putD])
    refine wpAnyH_skipD 49 52 (by kernel_rfl) (by kernel_rfl) (by kernel_rfl) (by kernel_rfl) (by rfl) (fun _ _ _ h => h) hHeld ?_
    (try simp only [putA, putB, putC, putD])
    refine tkD 50 53 (v := ?_) ?_ hHeld ?_
    rotate_left 1
    (intro W hSw; (try dsimp only at hSw); go_simp; try with_reducible rfl)
    (try simp only [putA, putB, putC, putD])
    refine tkD 51 2 (v := ?_) ?_ hHeld ?_
    rotate_left 1
    (intro W hSw; (try dsimp only at hSw); go_simp; try with_reducible rfl)
    (try simp only [putA, putB, putC, putD])
    refine wpAnyH_done (by kernel_rfl) ?_ _
    clear hHeld
    go_wp2
    go_ret
    exact ⟨retB (by simp only [wheelB, H0, Bool.true_and, Bool.false_and]), by repeat (first | exact Below.refl _ _ | assumption | refine Below.setCell ?_ (by first | omega | (simp; done) | (simp; omega)) _ | refine Below.alloc ?_ (by first | omega | (simp; done) | (simp; omega)) _ | refine below_drewN ?_ _ | refine Below.drew ?_ | refine Below.trans ?_ (Below.mono (by assumption) (by first | omega | (simp; done) | (simp; omega))))⟩
  case true =>
    refine tkD 6 9 (v := ?_) ?_ hHeld ?_
    rotate_left 1
    (intro W hSw; (try dsimp only at hSw); go_simp; try with_reducible rfl)
    (try simp only [putA, putB, putC, putD])
    refine tkD 7 10 (v := ?_) ?_ hHeld ?_
    rotate_left 1
    (intro W hSw; (try dsimp only at hSw); go_simp; try with_reducible rfl)
    (try simp only [putA, putB, putC, putD])
    refine tkD 8 11 (v := ?_) ?_ hHeld ?_
    rotate_left 1
    (intro W hSw; (try dsimp only at hSw); go_simp; try with_reducible rfl)
    (try simp only [putA, putB, putC, putD])
    refine tkD 9 12 (v := ?_) ?_ hHeld ?_
    rotate_left 1
    (intro W hSw; (try dsimp only at hSw); go_simp; try with_reducible rfl)
    (try simp only [putA, putB, putC, putD])
    refine tkC 10 13 (fun W _ => rCWhole_any (-4) (-17179869184) (by decide +kernel) W) hHeld ?_
    (try simp only [putA, putB, putC, putD])
    refine tkC 11 14 (fun W _ => rCWhole_any (4) (17179869184) (by decide +kernel) W) hHeld ?_
    (try simp only [putA, putB, putC, putD])
    refine tkC 12 15 (fun W _ => rCIn_any (f 1) (-17179869184) (17179869184) W) hHeld ?_
    (try simp only [putA, putB, putC, putD])
    cases H1 : inC (-17179869184) (17179869184) (f 1)
    case false =>
      refine tkD 13 16 (v := ?_) ?_ hHeld ?_
      rotate_left 1
      (intro W hSw; (try dsimp only at hSw); go_simp; try with_reducible rfl)
      (try simp only [putA, putB, putC, putD])
      refine tkD 14 17 (v := ?_) ?_ hHeld ?_
      rotate_left 1
      (intro W hSw; (try dsimp only at hSw); go_simp; try with_reducible rfl)
      (try simp only [putA, putB, putC, putD])
      refine wpAnyH_skipD 15 18 (by kernel_rfl) (by kernel_rfl) (by kernel_rfl) (by kernel_rfl) (by rfl) (fun _ _ _ h => h) hHeld ?_
      (try simp only [putA, putB, putC, putD])
      refine wpAnyH_skipD 16 19 (by kernel_rfl) (by kernel_rfl) (by kernel_rfl) (by kernel_rfl) (by rfl) (fun _ _ _ h => h) hHeld ?_
      (try simp only [putA, putB, putC, putD])
      refine wpAnyH_skipD 17 20 (by kernel_rfl) (by kernel_rfl) (by kernel_rfl) (by kernel_rfl) (by rfl) (fun _ _ _ h => h) hHeld ?_
      (try simp only [putA, putB, putC, putD])
      refine wpAnyH_skipD 18 21 (by kernel_rfl) (by kernel_rfl) (by kernel_rfl) (by kernel_rfl) (by rfl) (fun _ _ _ h => h) hHeld ?_
      (try simp only [putA, putB, putC, putD])
      refine wpAnyH_skipD 19 22 (by kernel_rfl) (by kernel_rfl) (by kernel_rfl) (by kernel_rfl) (by rfl) (fun _ _ _ h => h) hHeld ?_
      (try simp only [putA, putB, putC, putD])
      refine wpAnyH_skipD 20 23 (by kernel_rfl) (by kernel_rfl) (by kernel_rfl) (by kernel_rfl) (by rfl) (fun _ _ _ h => h) hHeld ?_
      (try simp only [putA, putB, putC, putD])
      refine tkD 21 24 (v := ?_) ?_ hHeld ?_
      rotate_left 1
      (intro W hSw; (try dsimp only at hSw); go_simp; try with_reducible rfl)
      (try simp only [putA, putB, putC, putD])
      refine tkD 22 25 (v := ?_) ?_ hHeld ?_
      rotate_left 1
      (intro W hSw; (try dsimp only at hSw); go_simp; try with_reducible rfl)
      (try simp only [putA, putB, putC, putD])
      refine wpAnyH_skipD 23 26 (by kernel_rfl) (by kernel_rfl) (by kernel_rfl) (by kernel_rfl) (by rfl) (fun _ _ _ h => h) hHeld ?_
      (try simp only [putA, putB, putC, putD])
      refine wpAnyH_skipD 24 27 (by kernel_rfl) (by kernel_rfl) (by kernel_rfl) (by kernel_rfl) (by rfl) (fun _ _ _ h => h) hHeld ?_
      (try simp only [putA, putB, putC, putD])
      refine wpAnyH_skipD 25 28 (by kernel_rfl) (by kernel_rfl) (by kernel_rfl) (by kernel_rfl) (by rfl) (fun _ _ _ h => h) hHeld ?_
      (try simp only [putA, putB, putC, putD])
      refine tkD 26 29 (v := ?_) ?_ hHeld ?_
      rotate_left 1
      (intro W hSw; (try dsimp only at hSw); go_simp; try with_reducible rfl)
      (try simp only [putA, putB, putC, putD])
      refine tkD 27 30 (v := ?_) ?_ hHeld ?_
      rotate_left 1
      (intro W hSw; (try dsimp only at hSw); go_simp; try with_reducible rfl)
      (try simp only [putA, putB, putC, putD])
      refine wpAnyH_skipD 28 31 (by kernel_rfl) (by kernel_rfl) (by kernel_rfl) (by kernel_rfl) (by rfl) (fun _ _ _ h => h) hHeld ?_
      (try simp only [putA, putB, putC, putD])
      refine wpAnyH_skipD 29 32 (by kernel_rfl) (by kernel_rfl) (by kernel_rfl) (by kernel_rfl) (by rfl) (fun _ _ _ h => h) hHeld ?_
      (try simp only [putA, putB, putC, putD])
      refine wpAnyH_skipD 30 33 (by kernel_rfl) (by kernel_rfl) (by kernel_rfl) (by kernel_rfl) (by rfl) (fun _ _ _ h => h) hHeld ?_
      (try simp only [putA, putB, putC, putD])
      refine wpAnyH_skipD 31 34 (by kernel_rfl) (by kernel_rfl) (by kernel_rfl) (by kernel_rfl) (by rfl) (fun _ _ _ h => h) hHeld ?_
      (try simp only [putA, putB, putC, putD])
      refine tkD 32 35 (v := ?_) ?_ hHeld ?_
      rotate_left 1
      (intro W hSw; (try dsimp only at hSw); go_simp; try with_reducible rfl)
      (try simp only [putA, putB, putC, putD])
      refine tkD 33 36 (v := ?_) ?_ hHeld ?_
      rotate_left 1
      (intro W hSw; (try dsimp only at hSw); go_simp; try with_reducible rfl)
      (try simp only [putA, putB, putC, putD])
      refine wpAnyH_skipD 34 37 (by kernel_rfl) (by kernel_rfl) (by kernel_rfl) (by kernel_rfl) (by rfl) (fun _ _ _ h => h) hHeld ?_
      (try simp only [putA, putB, putC, putD])
      refine wpAnyH_skipD 35 38 (by kernel_rfl) (by kernel_rfl) (by kernel_rfl) (by kernel_rfl) (by rfl) (fun _ _ _ h => h) hHeld ?_
      (try simp only [putA, putB, putC, putD])
      refine wpAnyH_skipD 36 39 (by kernel_rfl) (by kernel_rfl) (by kernel_rfl) (by kernel_rfl) (by rfl) (fun _ _ _ h => h) hHeld ?_
      (try simp only [putA, putB, putC, putD])
      refine wpAnyH_skipD 37 40 (by kernel_rfl) (by kernel_rfl) (by kernel_rfl) (by kernel_rfl) (by rfl) (fun _ _ _ h => h) hHeld ?_
      (try simp only [putA, putB, putC, putD])
      refine wpAnyH_skipD 38 41 (by kernel_rfl) (by kernel_rfl) (by kernel_rfl) (by kernel_rfl) (by rfl) (fun _ _ _ h => h) hHeld ?_
      (try simp only [putA, putB, putC, putD])
      refine tkD 39 42 (v := ?_) ?_ hHeld ?_
      rotate_left 1
      (intro W hSw; (try dsimp only at hSw); go_simp; try with_reducible rfl)
      (try simp only [putA, putB, putC, putD])
      refine tkD 40 43 (v := ?_) ?_ hHeld ?_
      rotate_left 1
      (intro W hSw; (try dsimp only at hSw); go_simp; try with_reducible rfl)
      (try simp only [putA, putB, putC, putD])
      refine wpAnyH_skipD 41 44 (by kernel_rfl) (by kernel_rfl) (by kernel_rfl) (by kernel_rfl) (by rfl) (fun _ _ _ h => h) hHeld ?_
      (try simp only [putA, putB, putC, putD])
      refine wpAnyH_skipD 42 45 (by kernel_rfl) (by kernel_rfl) (by kernel_rfl) (by kernel_rfl) (by rfl) (fun _ _ _ h => h) hHeld ?_
      (try simp only [putA, putB, putC, putD])
      refine wpAnyH_skipD 43 46 (by kernel_rfl) (by kernel_rfl) (by kernel_rfl) (by kernel_rfl) (by rfl) (fun _ _ _ h => h) hHeld ?_
      (try simp only [putA, putB, putC, putD])
      refine tkD 44 47 (v := ?_) ?_ hHeld ?_
      rotate_left 1
      (intro W hSw; (try dsimp only at hSw); go_simp; try with_reducible rfl)
      (try simp only [putA, putB, putC, putD])
      refine tkD 45 48 (v := ?_) ?_ hHeld ?_
      rotate_left 1
      (intro W hSw; (try dsimp only at hSw); go_simp; try with_reducible rfl)
      (try simp only [putA, putB, putC, putD])
      refine wpAnyH_skipD 46 49 (by kernel_rfl) (by kernel_rfl) (by kernel_rfl) (by kernel_rfl) (by rfl) (fun _ _ _ h => h) hHeld ?_
      (try simp only [putA, putB, putC, putD])
      refine wpAnyH_skipD 47 50 (by kernel_rfl) (by kernel_rfl) (by kernel_rfl) (by kernel_rfl) (by rfl) (fun _ _ _ h => h) hHeld ?_
      (try simp only [putA, putB, putC, putD])
      refine wpAnyH_skipD 48 51 (by kernel_rfl) (by kernel_rfl) (by kernel_rfl) (by kernel_rfl) (by rfl) (fun _ _ _ h => h) hHeld ?_
      (try simp only [putA, putB, putC, putD])
      refine wpAnyH_skipD 49 52 (by kernel_rfl) (by kernel_rfl) (by kernel_rfl) (by kernel_rfl) (by rfl) (fun _ _ _ h => h) hHeld ?_
      (try simp only [putA, putB, putC, putD])
      refine tkD 50 53 (v := ?_) ?_ hHeld ?_
      rotate_left 1
      (intro W hSw; (try dsimp only at hSw); go_simp; try with_reducible rfl)
      (try simp only [putA, putB, putC, putD])
      refine tkD 51 2 (v := ?_) ?_ hHeld ?_
      rotate_left 1
      (intro W hSw; (try dsimp only at hSw); go_simp; try with_reducible rfl)
      (try simp only [putA, putB, putC, putD])
      refine wpAnyH_done (by kernel_rfl) ?_ _
      clear hHeld
      go_wp2
      go_ret
      exact ⟨retB (by simp only [wheelB, H0, H1, Bool.true_and, Bool.false_and]), by repeat (first | exact Below.refl _ _ | assumption | refine Below.setCell ?_ (by first | omega | (simp; done) | (simp; omega)) _ | refine Below.alloc ?_ (by first | omega | (simp; done) | (simp; omega)) _ | refine below_drewN ?_ _ | refine Below.drew ?_ | refine Below.trans ?_ (Below.mono (by assumption) (by first | omega | (simp; done) | (simp; omega))))⟩
    case true =>
      refine tkD 13 16 (v := ?_) ?_ hHeld ?_
      rotate_left 1
      (intro W hSw; (try dsimp only at hSw); go_simp; try with_reducible rfl)
      (try simp only [putA, putB, putC, putD])
      refine tkD 14 17 (v := ?_) ?_ hHeld ?_
      rotate_left 1
      (intro W hSw; (try dsimp only at hSw); go_simp; try with_reducible rfl)
      (try simp only [putA, putB, putC, putD])
      refine tkD 15 18 (v := ?_) ?_ hHeld ?_
      rotate_left 1
      (intro W hSw; (try dsimp only at hSw); go_simp; try with_reducible rfl)
      (try simp only [putA, putB, putC, putD])
      refine tkD 16 19 (v := ?_) ?_ hHeld ?_
      rotate_left 1
      (intro W hSw; (try dsimp only at hSw); go_simp; try with_reducible rfl)
      (try simp only [putA, putB, putC, putD])
      refine tkD 17 20 (v := ?_) ?_ hHeld ?_
      rotate_left 1
      (intro W hSw; (try dsimp only at hSw); go_simp; try with_reducible rfl)
      (try simp only [putA, putB, putC, putD])
      refine tkC 18 21 (fun W _ => rCWhole_any (-2) (-8589934592) (by decide +kernel) W) hHeld ?_
      (try simp only [putA, putB, putC, putD])
      refine tkC 19 22 (fun W _ => rCWhole_any (2) (8589934592) (by decide +kernel) W) hHeld ?_
      (try simp only [putA, putB, putC, putD])
      refine tkC 20 23 (fun W _ => rCIn_any (f 2) (-8589934592) (8589934592) W) hHeld ?_
      (try simp only [putA, putB, putC, putD])
      cases H2 : inC (-8589934592) (8589934592) (f 2)
      case false =>
        refine tkD 21 24 (v := ?_) ?_ hHeld ?_
        rotate_left 1
        (intro W hSw; (try dsimp only at hSw); go_simp; try with_reducible rfl)
        (try simp only [putA, putB, putC, putD])
        refine tkD 22 25 (v := ?_) ?_ hHeld ?_
        rotate_left 1
        (intro W hSw; (try dsimp only at hSw); go_simp; try with_reducible rfl)
        (try simp only [putA, putB, putC, putD])
        refine wpAnyH_skipD 23 26 (by kernel_rfl) (by kernel_rfl) (by kernel_rfl) (by kernel_rfl) (by rfl) (fun _ _ _ h => h) hHeld ?_
        (try simp only [putA, putB, putC, putD])
        refine wpAnyH_skipD 24 27 (by kernel_rfl) (by kernel_rfl) (by kernel_rfl) (by kernel_rfl) (by rfl) (fun _ _ _ h => h) hHeld ?_
        (try simp only [putA, putB, putC, putD])
        refine wpAnyH_skipD 25 28 (by kernel_rfl) (by kernel_rfl) (by kernel_rfl) (by kernel_rfl) (by rfl) (fun _ _ _ h => h) hHeld ?_
        (try simp only [putA, putB, putC, putD])
        refine tkD 26 29 (v := ?_) ?_ hHeld ?_
        rotate_left 1
        (intro W hSw; (try dsimp only at hSw); go_simp; try with_reducible rfl)
        (try simp only [putA, putB, putC, putD])
        refine tkD 27 30 (v := ?_) ?_ hHeld ?_
        rotate_left 1
        (intro W hSw; (try dsimp only at hSw); go_simp; try with_reducible rfl)
        (try simp only [putA, putB, putC, putD])
        refine wpAnyH_skipD 28 31 (by kernel_rfl) (by kernel_rfl) (by kernel_rfl) (by kernel_rfl) (by rfl) (fun _ _ _ h => h) hHeld ?_
        (try simp only [putA, putB, putC, putD])
        refine wpAnyH_skipD 29 32 (by kernel_rfl) (by kernel_rfl) (by kernel_rfl) (by kernel_rfl) (by rfl) (fun _ _ _ h => h) hHeld ?_
        (try simp only [putA, putB, putC, putD])
        refine wpAnyH_skipD 30 33 (by kernel_rfl) (by kernel_rfl) (by kernel_rfl) (by kernel_rfl) (by rfl) (fun _ _ _ h => h) hHeld ?_
        (try simp only [putA, putB, putC, putD])
        refine wpAnyH_skipD 31 34 (by kernel_rfl) (by kernel_rfl) (by kernel_rfl) (by kernel_rfl) (by rfl) (fun _ _ _ h => h) hHeld ?_
        (try simp only [putA, putB, putC, putD])
        refine tkD 32 35 (v := ?_) ?_ hHeld ?_
        rotate_left 1
        (intro W hSw; (try dsimp only at hSw); go_simp; try with_reducible rfl)
        (try simp only [putA, putB, putC, putD])
        refine tkD 33 36 (v := ?_) ?_ hHeld ?_
        rotate_left 1
        (intro W hSw; (try dsimp only at hSw); go_simp; try with_reducible rfl)
        (try simp only [putA, putB, putC, putD])
        refine wpAnyH_skipD 34 37 (by kernel_rfl) (by kernel_rfl) (by kernel_rfl) (by kernel_rfl) (by rfl) (fun _ _ _ h => h) hHeld ?_
        (try simp only [putA, putB, putC, putD])
        refine wpAnyH_skipD 35 38 (by kernel_rfl) (by kernel_rfl) (by kernel_rfl) (by kernel_rfl) (by rfl) (fun _ _ _ h => h) hHeld ?_
        (try simp only [putA, putB, putC, putD])
        refine wpAnyH_skipD 36 39 (by kernel_rfl) (by kernel_rfl) (by kernel_rfl) (by kernel_rfl) (by rfl) (fun _ _ _ h => h) hHeld ?_
        (try simp only [putA, putB, putC, putD])
        refine wpAnyH_skipD 37 40 (by kernel_rfl) (by kernel_rfl) (by kernel_rfl) (by kernel_rfl) (by rfl) (fun _ _ _ h => h) hHeld ?_
        (try simp only [putA, putB, putC, putD])
        refine wpAnyH_skipD 38 41 (by kernel_rfl) (by kernel_rfl) (by kernel_rfl) (by kernel_rfl) (by rfl) (fun _ _ _ h => h) hHeld ?_
        (try simp only [putA, putB, putC, putD])
        refine tkD 39 42 (v := ?_) ?_ hHeld ?_
        rotate_left 1
        (intro W hSw; (try dsimp only at hSw); go_simp; try with_reducible rfl)
        (try simp only [putA, putB, putC, putD])
        refine tkD 40 43 (v := ?_) ?_ hHeld ?_
        rotate_left 1
        (intro W hSw; (try dsimp only at hSw); go_simp; try with_reducible rfl)
        (try simp only [putA, putB, putC, putD])
        refine wpAnyH_skipD 41 44 (by kernel_rfl) (by kernel_rfl) (by kernel_rfl) (by kernel_rfl) (by rfl) (fun _ _ _ h => h) hHeld ?_
        (try simp only [putA, putB, putC, putD])
        refine wpAnyH_skipD 42 45 (by kernel_rfl) (by kernel_rfl) (by kernel_rfl) (by kernel_rfl) (by rfl) (fun _ _ _ h => h) hHeld ?_
        (try simp only [putA, putB, putC, putD])
        refine wpAnyH_skipD 43 46 (by kernel_rfl) (by kernel_rfl) (by kernel_rfl) (by kernel_rfl) (by rfl) (fun _ _ _ h => h) hHeld ?_
        (try simp only [putA, putB, putC, putD])
        refine tkD 44 47 (v := ?_) ?_ hHeld ?_
        rotate_left 1
        (intro W hSw; (try dsimp only at hSw); go_simp; try with_reducible rfl)
        (try simp only [putA, putB, putC, putD])
        refine tkD 45 48 (v := ?_) ?_ hHeld ?_
        rotate_left 1
        (intro W hSw; (try dsimp only at hSw); go_simp; try with_reducible rfl)
        (try simp only [putA, putB, putC, putD])
        refine wpAnyH_skipD 46 49 (by kernel_rfl) (by kernel_rfl) (by kernel_rfl) (by kernel_rfl) (by rfl) (fun _ _ _ h => h) hHeld ?_
        (try simp only [putA, putB, putC, putD])
        refine wpAnyH_skipD 47 50 (by kernel_rfl) (by kernel_rfl) (by kernel_rfl) (by kernel_rfl) (by rfl) (fun _ _ _ h => h) hHeld ?_
        (try simp only [putA, putB, putC, putD])
        refine wpAnyH_skipD 48 51 (by kernel_rfl) (by kernel_rfl) (by kernel_rfl) (by kernel_rfl) (by rfl) (fun _ _ _ h => h) hHeld ?_
        (try simp only [putA, putB, putC, putD])
        refine wpAnyH_skipD 49 52 (by kernel_rfl) (by kernel_rfl) (by kernel_rfl) (by kernel_rfl) (by rfl) (fun _ _ _ h => h) hHeld ?_
        (try simp only [putA, putB, putC, putD])
        refine tkD 50 53 (v := ?_) ?_ hHeld ?_
        rotate_left 1
        (intro W hSw; (try dsimp only at hSw); go_simp; try with_reducible rfl)
        (try simp only [putA, putB, putC, putD])
        refine tkD 51 2 (v := ?_) ?_ hHeld ?_
        rotate_left 1
        (intro W hSw; (try dsimp only at hSw); go_simp; try with_reducible rfl)
        (try simp only [putA, putB, putC, putD])
        refine wpAnyH_done (by kernel_rfl) ?_ _
        clear hHeld
        go_wp2
        go_ret
        exact ⟨retB (by simp only [wheelB, H0, H1, H2, Bool.true_and, Bool.false_and]), by repeat (first | exact Below.refl _ _ | assumption | refine Below.setCell ?_ (by first | omega | (simp; done) | (simp; omega)) _ | refine Below.alloc ?_ (by first | omega | (simp; done) | (simp; omega)) _ | refine below_drewN ?_ _ | refine Below.drew ?_ | refine Below.trans ?_ (Below.mono (by assumption) (by first | omega | (simp; done) | (simp; omega))))⟩
      case true =>
        refine tkD 21 24 (v := ?_) ?_ hHeld ?_
        rotate_left 1
        (intro W hSw; (try dsimp only at hSw); go_simp; try with_reducible rfl)
        (try simp only [putA, putB, putC, putD])
        refine tkD 22 25 (v := ?_) ?_ hHeld ?_
        rotate_left 1
        (intro W hSw; (try dsimp only at hSw); go_simp; try with_reducible rfl)
        (try simp only [putA, putB, putC, putD])
        refine tkD 23 26 (v := ?_) ?_ hHeld ?_
        rotate_left 1
        (intro W hSw; (try dsimp only at hSw); go_simp; try with_reducible rfl)
        (try simp only [putA, putB, putC, putD])
        refine tkD 24 27 (v := ?_) ?_ hHeld ?_
        rotate_left 1
        (intro W hSw; (try dsimp only at hSw); go_simp; try with_reducible rfl)
        (try simp only [putA, putB, putC, putD])
        refine tkC 25 28 (fun W _ => rCIn_any (f 3) (536870912) (4294967296) W) hHeld ?_
        (try simp only [putA, putB, putC, putD])
        cases H3 : inC (536870912) (4294967296) (f 3)
        case false =>
          refine tkD 26 29 (v := ?_) ?_ hHeld ?_
          rotate_left 1
          (intro W hSw; (try dsimp only at hSw); go_simp; try with_reducible rfl)
          (try simp only [putA, putB, putC, putD])
          refine tkD 27 30 (v := ?_) ?_ hHeld ?_
          rotate_left 1
          (intro W hSw; (try dsimp only at hSw); go_simp; try with_reducible rfl)
          (try simp only [putA, putB, putC, putD])
          refine wpAnyH_skipD 28 31 (by kernel_rfl) (by kernel_rfl) (by kernel_rfl) (by kernel_rfl) (by rfl) (fun _ _ _ h => h) hHeld ?_
          (try simp only [putA, putB, putC, putD])
          refine wpAnyH_skipD 29 32 (by kernel_rfl) (by kernel_rfl) (by kernel_rfl) (by kernel_rfl) (by rfl) (fun _ _ _ h => h) hHeld ?_
          (try simp only [putA, putB, putC, putD])
          refine wpAnyH_skipD 30 33 (by kernel_rfl) (by kernel_rfl) (by kernel_rfl) (by kernel_rfl) (by rfl) (fun _ _ _ h => h) hHeld ?_
          (try simp only [putA, putB, putC, putD])
          refine wpAnyH_skipD 31 34 (by kernel_rfl) (by kernel_rfl) (by kernel_rfl) (by kernel_rfl) (by rfl) (fun _ _ _ h => h) hHeld ?_
          (try simp only [putA, putB, putC, putD])
          refine tkD 32 35 (v := ?_) ?_ hHeld ?_
          rotate_left 1
          (intro W hSw; (try dsimp only at hSw); go_simp; try with_reducible rfl)
          (try simp only [putA, putB, putC, putD])
          refine tkD 33 36 (v := ?_) ?_ hHeld ?_
          rotate_left 1
          (intro W hSw; (try dsimp only at hSw); go_simp; try with_reducible rfl)
          (try simp only [putA, putB, putC, putD])
          refine wpAnyH_skipD 34 37 (by kernel_rfl) (by kernel_rfl) (by kernel_rfl) (by kernel_rfl) (by rfl) (fun _ _ _ h => h) hHeld ?_
          (try simp only [putA, putB, putC, putD])
          refine wpAnyH_skipD 35 38 (by kernel_rfl) (by kernel_rfl) (by kernel_rfl) (by kernel_rfl) (by rfl) (fun _ _ _ h => h) hHeld ?_
          (try simp only [putA, putB, putC, putD])
          refine wpAnyH_skipD 36 39 (by kernel_rfl) (by kernel_rfl) (by kernel_rfl) (by kernel_rfl) (by rfl) (fun _ _ _ h => h) hHeld ?_
          (try simp only [putA, putB, putC, putD])
          refine wpAnyH_skipD 37 40 (by kernel_rfl) (by kernel_rfl) (by kernel_rfl) (by kernel_rfl) (by rfl) (fun _ _ _ h => h) hHeld ?_
          (try simp only [putA, putB, putC, putD])
          refine wpAnyH_skipD 38 41 (by kernel_rfl) (by kernel_rfl) (by kernel_rfl) (by kernel_rfl) (by rfl) (fun _ _ _ h => h) hHeld ?_
          (try simp only [putA, putB, putC, putD])
          refine tkD 39 42 (v := ?_) ?_ hHeld ?_
          rotate_left 1
          (intro W hSw; (try dsimp only at hSw); go_simp; try with_reducible rfl)
          (try simp only [putA, putB, putC, putD])
          refine tkD 40 43 (v := ?_) ?_ hHeld ?_
          rotate_left 1
          (intro W hSw; (try dsimp only at hSw); go_simp; try with_reducible rfl)
          (try simp only [putA, putB, putC, putD])
          refine wpAnyH_skipD 41 44 (by kernel_rfl) (by kernel_rfl) (by kernel_rfl) (by kernel_rfl) (by rfl) (fun _ _ _ h => h) hHeld ?_
          (try simp only [putA, putB, putC, putD])
          refine wpAnyH_skipD 42 45 (by kernel_rfl) (by kernel_rfl) (by kernel_rfl) (by kernel_rfl) (by rfl) (fun _ _ _ h => h) hHeld ?_
          (try simp only [putA, putB, putC, putD])
          refine wpAnyH_skipD 43 46 (by kernel_rfl) (by kernel_rfl) (by kernel_rfl) (by kernel_rfl) (by rfl) (fun _ _ _ h => h) hHeld ?_
          (try simp only [putA, putB, putC, putD])
          refine tkD 44 47 (v := ?_) ?_ hHeld ?_
          rotate_left 1
          (intro W hSw; (try dsimp only at hSw); go_simp; try with_reducible rfl)
          (try simp only [putA, putB, putC, putD])
          refine tkD 45 48 (v := ?_) ?_ hHeld ?_
          rotate_left 1
          (intro W hSw; (try dsimp only at hSw); go_simp; try with_reducible rfl)
          (try simp only [putA, putB, putC, putD])
          refine wpAnyH_skipD 46 49 (by kernel_rfl) (by kernel_rfl) (by kernel_rfl) (by kernel_rfl) (by rfl) (fun _ _ _ h => h) hHeld ?_
          (try simp only [putA, putB, putC, putD])
          refine wpAnyH_skipD 47 50 (by kernel_rfl) (by kernel_rfl) (by kernel_rfl) (by kernel_rfl) (by rfl) (fun _ _ _ h => h) hHeld ?_
          (try simp only [putA, putB, putC, putD])
          refine wpAnyH_skipD 48 51 (by kernel_rfl) (by kernel_rfl) (by kernel_rfl) (by kernel_rfl) (by rfl) (fun _ _ _ h => h) hHeld ?_
          (try simp only [putA, putB, putC, putD])
          refine wpAnyH_skipD 49 52 (by kernel_rfl) (by kernel_rfl) (by kernel_rfl) (by kernel_rfl) (by rfl) (fun _ _ _ h => h) hHeld ?_
          (try simp only [putA, putB, putC, putD])
          refine tkD 50 53 (v := ?_) ?_ hHeld ?_
          rotate_left 1
          (intro W hSw; (try dsimp only at hSw); go_simp; try with_reducible rfl)
          (try simp only [putA, putB, putC, putD])
          refine tkD 51 2 (v := ?_) ?_ hHeld ?_
          rotate_left 1
          (intro W hSw; (try dsimp only at hSw); go_simp; try with_reducible rfl)
          (try simp only [putA, putB, putC, putD])
          refine wpAnyH_done (by kernel_rfl) ?_ _
          clear hHeld
          go_wp2
          go_ret
          exact ⟨retB (by simp only [wheelB, H0, H1, H2, H3, Bool.true_and, Bool.false_and]), by repeat (first | exact Below.refl _ _ | assumption | refine Below.setCell ?_ (by first | omega | (simp; done) | (simp; omega)) _ | refine Below.alloc ?_ (by first | omega | (simp; done) | (simp; omega)) _ | refine below_drewN ?_ _ | refine Below.drew ?_ | refine Below.trans ?_ (Below.mono (by assumption) (by first | omega | (simp; done) | (simp; omega))))⟩
        case true =>
          refine tkD 26 29 (v := ?_) ?_ hHeld ?_
          rotate_left 1
          (intro W hSw; (try dsimp only at hSw); go_simp; try with_reducible rfl)
          (try simp only [putA, putB, putC, putD])
          refine tkD 27 30 (v := ?_) ?_ hHeld ?_
          rotate_left 1
          (intro W hSw; (try dsimp only at hSw); go_simp; try with_reducible rfl)
          (try simp only [putA, putB, putC, putD])
          refine tkD 28 31 (v := ?_) ?_ hHeld ?_
          rotate_left 1
          (intro W hSw; (try dsimp only at hSw); go_simp; try with_reducible rfl)
          (try simp only [putA, putB, putC, putD])
          refine tkD 29 32 (v := ?_) ?_ hHeld ?_
          rotate_left 1
          (intro W hSw; (try dsimp only at hSw); go_simp; try with_reducible rfl)
          (try simp only [putA, putB, putC, putD])
          refine tkC 30 33 (fun W _ => rCWhole_any (64) (274877906944) (by decide +kernel) W) hHeld ?_
          (try simp only [putA, putB, putC, putD])
          refine tkC 31 34 (fun W _ => rCIn_any (f 4) (536870912) (274877906944) W) hHeld ?_
          (try simp only [putA, putB, putC, putD])
          cases H4 : inC (536870912) (274877906944) (f 4)
          case false =>
            refine tkD 32 35 (v := ?_) ?_ hHeld ?_
            rotate_left 1
            (intro W hSw; (try dsimp only at hSw); go_simp; try with_reducible rfl)
            (try simp only [putA, putB, putC, putD])
            refine tkD 33 36 (v := ?_) ?_ hHeld ?_
            rotate_left 1
            (intro W hSw; (try dsimp only at hSw); go_simp; try with_reducible rfl)
            (try simp only [putA, putB, putC, putD])
            refine wpAnyH_skipD 34 37 (by kernel_rfl) (by kernel_rfl) (by kernel_rfl) (by kernel_rfl) (by rfl) (fun _ _ _ h => h) hHeld ?_
            (try simp only [putA, putB, putC, putD])
            refine wpAnyH_skipD 35 38 (by kernel_rfl) (by kernel_rfl) (by kernel_rfl) (by kernel_rfl) (by rfl) (fun _ _ _ h => h) hHeld ?_
            (try simp only [putA, putB, putC, putD])
            refine wpAnyH_skipD 36 39 (by kernel_rfl) (by kernel_rfl) (by kernel_rfl) (by kernel_rfl) (by rfl) (fun _ _ _ h => h) hHeld ?_
            (try simp only [putA, putB, putC, putD])
            refine wpAnyH_skipD 37 40 (by kernel_rfl) (by kernel_rfl) (by kernel_rfl) (by kernel_rfl) (by rfl) (fun _ _ _ h => h) hHeld ?_
            (try simp only [putA, putB, putC, putD])
            refine wpAnyH_skipD 38 41 (by kernel_rfl) (by kernel_rfl) (by kernel_rfl) (by kernel_rfl) (by rfl) (fun _ _ _ h => h) hHeld ?_
            (try simp only [putA, putB, putC, putD])
            refine tkD 39 42 (v := ?_) ?_ hHeld ?_
            rotate_left 1
            (intro W hSw; (try dsimp only at hSw); go_simp; try with_reducible rfl)
            (try simp only [putA, putB, putC, putD])
            refine tkD 40 43 (v := ?_) ?_ hHeld ?_
            rotate_left 1
            (intro W hSw; (try dsimp only at hSw); go_simp; try with_reducible rfl)
            (try simp only [putA, putB, putC, putD])
            refine wpAnyH_skipD 41 44 (by kernel_rfl) (by kernel_rfl) (by kernel_rfl) (by kernel_rfl) (by rfl) (fun _ _ _ h => h) hHeld ?_
            (try simp only [putA, putB, putC, putD])
            refine wpAnyH_skipD 42 45 (by kernel_rfl) (by kernel_rfl) (by kernel_rfl) (by kernel_rfl) (by rfl) (fun _ _ _ h => h) hHeld ?_
            (try simp only [putA, putB, putC, putD])
            refine wpAnyH_skipD 43 46 (by kernel_rfl) (by kernel_rfl) (by kernel_rfl) (by kernel_rfl) (by rfl) (fun _ _ _ h => h) hHeld ?_
            (try simp only [putA, putB, putC, putD])
            refine tkD 44 47 (v := ?_) ?_ hHeld ?_
            rotate_left 1
            (intro W hSw; (try dsimp only at hSw); go_simp; try with_reducible rfl)
            (try simp only [putA, putB, putC, putD])
            refine tkD 45 48 (v := ?_) ?_ hHeld ?_
            rotate_left 1
            (intro W hSw; (try dsimp only at hSw); go_simp; try with_reducible rfl)
            (try simp only [putA, putB, putC, putD])
            refine wpAnyH_skipD 46 49 (by kernel_rfl) (by kernel_rfl) (by kernel_rfl) (by kernel_rfl) (by rfl) (fun _ _ _ h => h) hHeld ?_
            (try simp only [putA, putB, putC, putD])
            refine wpAnyH_skipD 47 50 (by kernel_rfl) (by kernel_rfl) (by kernel_rfl) (by kernel_rfl) (by rfl) (fun _ _ _ h => h) hHeld ?_
            (try simp only [putA, putB, putC, putD])
            refine wpAnyH_skipD 48 51 (by kernel_rfl) (by kernel_rfl) (by kernel_rfl) (by kernel_rfl) (by rfl) (fun _ _ _ h => h) hHeld ?_
            (try simp only [putA, putB, putC, putD])
            refine wpAnyH_skipD 49 52 (by kernel_rfl) (by kernel_rfl) (by kernel_rfl) (by kernel_rfl) (by rfl) (fun _ _ _ h => h) hHeld ?_
            (try simp only [putA, putB, putC, putD])
            refine tkD 50 53 (v := ?_) ?_ hHeld ?_
            rotate_left 1
            (intro W hSw; (try dsimp only at hSw); go_simp; try with_reducible rfl)
            (try simp only [putA, putB, putC, putD])
            refine tkD 51 2 (v := ?_) ?_ hHeld ?_
            rotate_left 1
            (intro W hSw; (try dsimp only at hSw); go_simp; try with_reducible rfl)
            (try simp only [putA, putB, putC, putD])
            refine wpAnyH_done (by kernel_rfl) ?_ _
            clear hHeld
            go_wp2
            go_ret
            exact ⟨retB (by simp only [wheelB, H0, H1, H2, H3, H4, Bool.true_and, Bool.false_and]), by repeat (first | exact Below.refl _ _ | assumption | refine Below.setCell ?_ (by first | omega | (simp; done) | (simp; omega)) _ | refine Below.alloc ?_ (by first | omega | (simp; done) | (simp; omega)) _ | refine below_drewN ?_ _ | refine Below.drew ?_ | refine Below.trans ?_ (Below.mono (by assumption) (by first | omega | (simp; done) | (simp; omega))))⟩
          case true =>
            refine tkD 32 35 (v := ?_) ?_ hHeld ?_
            rotate_left 1
            (intro W hSw; (try dsimp only at hSw); go_simp; try with_reducible rfl)
            (try simp only [putA, putB, putC, putD])
            refine tkD 33 36 (v := ?_) ?_ hHeld ?_
            rotate_left 1
            (intro W hSw; (try dsimp only at hSw); go_simp; try with_reducible rfl)
            (try simp only [putA, putB, putC, putD])
            refine tkD 34 37 (v := ?_) ?_ hHeld ?_
            rotate_left 1
            (intro W hSw; (try dsimp only at hSw); go_simp; try with_reducible rfl)
            (try simp only [putA, putB, putC, putD])
            refine tkD 35 38 (v := ?_) ?_ hHeld ?_
            rotate_left 1
            (intro W hSw; (try dsimp only at hSw); go_simp; try with_reducible rfl)
            (try simp only [putA, putB, putC, putD])
            refine tkC 36 39 (fun W _ => rCWhole_any (1024) (4398046511104) (by decide +kernel) W) hHeld ?_
            (try simp only [putA, putB, putC, putD])
            refine tkC 37 40 (fun W _ => rCWhole_any (262144) (1125899906842624) (by decide +kernel) W) hHeld ?_
            (try simp only [putA, putB, putC, putD])
            refine tkC 38 41 (fun W _ => rCIn_any (f 5) (4398046511104) (1125899906842624) W) hHeld ?_
            (try simp only [putA, putB, putC, putD])
            cases H5 : inC (4398046511104) (1125899906842624) (f 5)
            case false =>
              refine tkD 39 42 (v := ?_) ?_ hHeld ?_
              rotate_left 1
              (intro W hSw; (try dsimp only at hSw); go_simp; try with_reducible rfl)
              (try simp only [putA, putB, putC, putD])
              refine tkD 40 43 (v := ?_) ?_ hHeld ?_
              rotate_left 1
              (intro W hSw; (try dsimp only at hSw); go_simp; try with_reducible rfl)
              (try simp only [putA, putB, putC, putD])
              refine wpAnyH_skipD 41 44 (by kernel_rfl) (by kernel_rfl) (by kernel_rfl) (by kernel_rfl) (by rfl) (fun _ _ _ h => h) hHeld ?_
              (try simp only [putA, putB, putC, putD])
              refine wpAnyH_skipD 42 45 (by kernel_rfl) (by kernel_rfl) (by kernel_rfl) (by kernel_rfl) (by rfl) (fun _ _ _ h => h) hHeld ?_
              (try simp only [putA, putB, putC, putD])
              refine wpAnyH_skipD 43 46 (by kernel_rfl) (by kernel_rfl) (by kernel_rfl) (by kernel_rfl) (by rfl) (fun _ _ _ h => h) hHeld ?_
              (try simp only [putA, putB, putC, putD])
              refine tkD 44 47 (v := ?_) ?_ hHeld ?_
              rotate_left 1
              (intro W hSw; (try dsimp only at hSw); go_simp; try with_reducible rfl)
              (try simp only [putA, putB, putC, putD])
              refine tkD 45 48 (v := ?_) ?_ hHeld ?_
              rotate_left 1
              (intro W hSw; (try dsimp only at hSw); go_simp; try with_reducible rfl)
              (try simp only [putA, putB, putC, putD])
              refine wpAnyH_skipD 46 49 (by kernel_rfl) (by kernel_rfl) (by kernel_rfl) (by kernel_rfl) (by rfl) (fun _ _ _ h => h) hHeld ?_
              (try simp only [putA, putB, putC, putD])
              refine wpAnyH_skipD 47 50 (by kernel_rfl) (by kernel_rfl) (by kernel_rfl) (by kernel_rfl) (by rfl) (fun _ _ _ h => h) hHeld ?_
              (try simp only [putA, putB, putC, putD])
              refine wpAnyH_skipD 48 51 (by kernel_rfl) (by kernel_rfl) (by kernel_rfl) (by kernel_rfl) (by rfl) (fun _ _ _ h => h) hHeld ?_
              (try simp only [putA, putB, putC, putD])
              refine wpAnyH_skipD 49 52 (by kernel_rfl) (by kernel_rfl) (by kernel_rfl) (by kernel_rfl) (by rfl) (fun _ _ _ h => h) hHeld ?_
              (try simp only [putA, putB, putC, putD])
              refine tkD 50 53 (v := ?_) ?_ hHeld ?_
              rotate_left 1
              (intro W hSw; (try dsimp only at hSw); go_simp; try with_reducible rfl)
              (try simp only [putA, putB, putC, putD])
              refine tkD 51 2 (v := ?_) ?_ hHeld ?_
              rotate_left 1
              (intro W hSw; (try dsimp only at hSw); go_simp; try with_reducible rfl)
              (try simp only [putA, putB, putC, putD])
              refine wpAnyH_done (by kernel_rfl) ?_ _
              clear hHeld
              go_wp2
              go_ret
              exact ⟨retB (by simp only [wheelB, H0, H1, H2, H3, H4, H5, Bool.true_and, Bool.false_and]), by repeat (first | exact Below.refl _ _ | assumption | refine Below.setCell ?_ (by first | omega | (simp; done) | (simp; omega)) _ | refine Below.alloc ?_ (by first | omega | (simp; done) | (simp; omega)) _ | refine below_drewN ?_ _ | refine Below.drew ?_ | refine Below.trans ?_ (Below.mono (by assumption) (by first | omega | (simp; done) | (simp; omega))))⟩
            case true =>
              refine tkD 39 42 (v := ?_) ?_ hHeld ?_
              rotate_left 1
              (intro W hSw; (try dsimp only at hSw); go_simp; try with_reducible rfl)
              (try simp only [putA, putB, putC, putD])
              refine tkD 40 43 (v := ?_) ?_ hHeld ?_
              rotate_left 1
              (intro W hSw; (try dsimp only at hSw); go_simp; try with_reducible rfl)
              (try simp only [putA, putB, putC, putD])
              refine tkD 41 44 (v := ?_) ?_ hHeld ?_
              rotate_left 1
              (intro W hSw; (try dsimp only at hSw); go_simp; try with_reducible rfl)
              (try simp only [putA, putB, putC, putD])
              refine tkD 42 45 (v := ?_) ?_ hHeld ?_
              rotate_left 1
              (intro W hSw; (try dsimp only at hSw); go_simp; try with_reducible rfl)
              (try simp only [putA, putB, putC, putD])
              refine tkC 43 46 (fun W _ => rCIn_any (f 6) (67108864) (2147483648) W) hHeld ?_
              (try simp only [putA, putB, putC, putD])
              cases H6 : inC (67108864) (2147483648) (f 6)
              case false =>
                refine tkD 44 47 (v := ?_) ?_ hHeld ?_
                rotate_left 1
                (intro W hSw; (try dsimp only at hSw); go_simp; try with_reducible rfl)
                (try simp only [putA, putB, putC, putD])
                refine tkD 45 48 (v := ?_) ?_ hHeld ?_
                rotate_left 1
                (intro W hSw; (try dsimp only at hSw); go_simp; try with_reducible rfl)
                (try simp only [putA, putB, putC, putD])
                refine wpAnyH_skipD 46 49 (by kernel_rfl) (by kernel_rfl) (by kernel_rfl) (by kernel_rfl) (by rfl) (fun _ _ _ h => h) hHeld ?_
                (try simp only [putA, putB, putC, putD])
                refine wpAnyH_skipD 47 50 (by kernel_rfl) (by kernel_rfl) (by kernel_rfl) (by kernel_rfl) (by rfl) (fun _ _ _ h => h) hHeld ?_
                (try simp only [putA, putB, putC, putD])
                refine wpAnyH_skipD 48 51 (by kernel_rfl) (by kernel_rfl) (by kernel_rfl) (by kernel_rfl) (by rfl) (fun _ _ _ h => h) hHeld ?_
                (try simp only [putA, putB, putC, putD])
                refine wpAnyH_skipD 49 52 (by kernel_rfl) (by kernel_rfl) (by kernel_rfl) (by kernel_rfl) (by rfl) (fun _ _ _ h => h) hHeld ?_
                (try simp only [putA, putB, putC, putD])
                refine tkD 50 53 (v := ?_) ?_ hHeld ?_
                rotate_left 1
                (intro W hSw; (try dsimp only at hSw); go_simp; try with_reducible rfl)
                (try simp only [putA, putB, putC, putD])
                refine tkD 51 2 (v := ?_) ?_ hHeld ?_
                rotate_left 1
                (intro W hSw; (try dsimp only at hSw); go_simp; try with_reducible rfl)
                (try simp only [putA, putB, putC, putD])
                refine wpAnyH_done (by kernel_rfl) ?_ _
                clear hHeld
                go_wp2
                go_ret
                exact ⟨retB (by simp only [wheelB, H0, H1, H2, H3, H4, H5, H6, Bool.true_and, Bool.false_and]), by repeat (first | exact Below.refl _ _ | assumption | refine Below.setCell ?_ (by first | omega | (simp; done) | (simp; omega)) _ | refine Below.alloc ?_ (by first | omega | (simp; done) | (simp; omega)) _ | refine below_drewN ?_ _ | refine Below.drew ?_ | refine Below.trans ?_ (Below.mono (by assumption) (by first | omega | (simp; done) | (simp; omega))))⟩
              case true =>
                refine tkD 44 47 (v := ?_) ?_ hHeld ?_
                rotate_left 1
                (intro W hSw; (try dsimp only at hSw); go_simp; try with_reducible rfl)
                (try simp only [putA, putB, putC, putD])
                refine tkD 45 48 (v := ?_) ?_ hHeld ?_
                rotate_left 1
                (intro W hSw; (try dsimp only at hSw); go_simp; try with_reducible rfl)
                (try simp only [putA, putB, putC, putD])
                refine tkD 46 49 (v := ?_) ?_ hHeld ?_
                rotate_left 1
                (intro W hSw; (try dsimp only at hSw); go_simp; try with_reducible rfl)
                (try simp only [putA, putB, putC, putD])
                refine tkD 47 50 (v := ?_) ?_ hHeld ?_
                rotate_left 1
                (intro W hSw; (try dsimp only at hSw); go_simp; try with_reducible rfl)
                (try simp only [putA, putB, putC, putD])
                refine tkC 48 51 (fun W _ => rCWhole_any (1048576) (4503599627370496) (by decide +kernel) W) hHeld ?_
                (try simp only [putA, putB, putC, putD])
                refine tkC 49 52 (fun W _ => rCIn_any (f 7) (0) (4503599627370496) W) hHeld ?_
                (try simp only [putA, putB, putC, putD])
                cases H7 : inC (0) (4503599627370496) (f 7)
                case false =>
                  refine tkD 50 53 (v := ?_) ?_ hHeld ?_
                  rotate_left 1
                  (intro W hSw; (try dsimp only at hSw); go_simp; try with_reducible rfl)
                  (try simp only [putA, putB, putC, putD])
                  refine tkD 51 2 (v := ?_) ?_ hHeld ?_
                  rotate_left 1
                  (intro W hSw; (try dsimp only at hSw); go_simp; try with_reducible rfl)
                  (try simp only [putA, putB, putC, putD])
                  refine wpAnyH_done (by kernel_rfl) ?_ _
                  clear hHeld
                  go_wp2
                  go_ret
                  exact ⟨retB (by simp only [wheelB, H0, H1, H2, H3, H4, H5, H6, H7, Bool.true_and, Bool.false_and]), by repeat (first | exact Below.refl _ _ | assumption | refine Below.setCell ?_ (by first | omega | (simp; done) | (simp; omega)) _ | refine Below.alloc ?_ (by first | omega | (simp; done) | (simp; omega)) _ | refine below_drewN ?_ _ | refine Below.drew ?_ | refine Below.trans ?_ (Below.mono (by assumption) (by first | omega | (simp; done) | (simp; omega))))⟩
                case true =>
                  refine tkD 50 53 (v := ?_) ?_ hHeld ?_
                  rotate_left 1
                  (intro W hSw; (try dsimp only at hSw); go_simp; try with_reducible rfl)
                  (try simp only [putA, putB, putC, putD])
                  refine tkD 51 2 (v := ?_) ?_ hHeld ?_
                  rotate_left 1
                  (intro W hSw; (try dsimp only at hSw); go_simp; try with_reducible rfl)
                  (try simp only [putA, putB, putC, putD])
                  refine wpAnyH_done (by kernel_rfl) ?_ _
                  clear hHeld
                  go_wp2
                  go_ret
                  exact ⟨retB (by simp only [wheelB, H0, H1, H2, H3, H4, H5, H6, H7, Bool.true_and, Bool.false_and]), by repeat (first | exact Below.refl _ _ | assumption | refine Below.setCell ?_ (by first | omega | (simp; done) | (simp; omega)) _ | refine Below.alloc ?_ (by first | omega | (simp; done) | (simp; omega)) _ | refine below_drewN ?_ _ | refine Below.drew ?_ | refine Below.trans ?_ (Below.mono (by assumption) (by first | omega | (simp; done) | (simp; omega))))⟩
end Go.Proofs.Ytbpmbdnhfkfkhaa
