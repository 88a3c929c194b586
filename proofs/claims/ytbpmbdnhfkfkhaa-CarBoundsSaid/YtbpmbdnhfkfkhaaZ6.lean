/- The document's car: rest. -/
import Derived.Test.YtbpmbdnhfkfkhaaZ2
namespace Go.Proofs.Ytbpmbdnhfkfkhaa
open Go.RowKit
set_option linter.unusedVariables false
set_option linter.unusedSimpArgs false

def rCRestB (c : Cr) : Bool := decide (0 ≤ c.f 62) && (decide (c.f 62 ≤ 2) && (inC (0) (281474976710656) (c.f 63) && (inC (0) (70368744177664) (c.f 64) && (inC (0) (70368744177664) (c.f 65) && (inC (0) (4294967296) (c.f 66) && (decide (c.f 67 ≤ 536870912) && (decide (c.f 68 ≤ 2147483648))))))))
set_option maxRecDepth 100000 in
set_option maxHeartbeats 8000000 in
theorem rCRest_any (c : Cr) (w : World) : Calls Try.prog 33 #[.agg (carL c).toArray] w fun e w' => e = .returned (.bool (rCRestB c)) ∧ Below w.heap.size w w' := by
  have B0 := BW.new w _ (carL c) 37 rfl
  have B1 := Lib.hid B0.drew
  clear B0
  go_enter Try.func33, Try.ntmps33
  go_wp2_with fail
  refine wp_region_held_drew (S := fun W => W.cell? ⟨w.heap.size, 62, none⟩ = some (.int .i64 (c.f 62)) ∧ W.cell? ⟨w.heap.size, 63, none⟩ = some (.int .i64 (c.f 63)) ∧ W.cell? ⟨w.heap.size, 64, none⟩ = some (.int .i64 (c.f 64)) ∧ W.cell? ⟨w.heap.size, 65, none⟩ = some (.int .i64 (c.f 65)) ∧ W.cell? ⟨w.heap.size, 66, none⟩ = some (.int .i64 (c.f 66)) ∧ W.cell? ⟨w.heap.size, 67, none⟩ = some (.int .u32 (c.f 67)) ∧ W.cell? ⟨w.heap.size, 68, none⟩ = some (.int .u32 (c.f 68))) (by kernel_rfl) ⟨B1.out.c 62 _ rfl, B1.out.c 63 _ rfl, B1.out.c 64 _ rfl, B1.out.c 65 _ rfl, B1.out.c 66 _ rfl, B1.out.c 67 _ rfl, B1.out.c 68 _ rfl⟩ (fun hHeld => ?_)
  clear B1
  refine tkD 0 3 (v := ?_) ?_ hHeld ?_
  rotate_left 1
  (intro W hSw; (try dsimp only at hSw); go_simp; try with_reducible rfl)
  (try simp only [putA, putB, putC, putD])
  refine tkD 1 4 (v := ?_) ?_ hHeld ?_
  rotate_left 1
  (intro W hSw; (try dsimp only at hSw); go_simp; try with_reducible rfl)
  (try simp only [putA, putB, putC, putD])
  rcases Classical.em (0 ≤ c.f 62) with H0 | H0
  · skip
    refine tkD 2 5 (v := ?_) ?_ hHeld ?_
    rotate_left 1
    (intro W hSw; (try dsimp only at hSw); go_simp; try with_reducible rfl)
    (try simp only [putA, putB, putC, putD])
    refine tkD 3 6 (v := ?_) ?_ hHeld ?_
    rotate_left 1
    (intro W hSw; (try dsimp only at hSw); go_simp; try with_reducible rfl)
    (try simp only [putA, putB, putC, putD])
    refine tkD 4 7 (v := ?_) ?_ hHeld ?_
    rotate_left 1
    (intro W hSw; (try dsimp only at hSw); go_simp; try with_reducible rfl)
    (try simp only [putA, putB, putC, putD])
    refine tkD 5 8 (v := ?_) ?_ hHeld ?_
    rotate_left 1
    (intro W hSw; (try dsimp only at hSw); go_simp; try with_reducible rfl)
    (try simp only [putA, putB, putC, putD])
    rcases Classical.em (c.f 62 ≤ 2) with H1 | H1
    · skip
      refine tkD 6 9 (v := ?_) ?_ hHeld ?_
      rotate_left 1
      (intro W hSw; (try dsimp only at hSw); go_simp; try with_reducible rfl)
      (try simp only [putA, putB, putC, putD])
      refine tkD 7 10 (v := ?_) ?_ hHeld ?_
      rotate_left 1
      (intro W hSw; (try dsimp only at hSw); go_simp; try with_reducible rfl)
      (try simp only [putA, putB, putC, putD])
      refine tkD 8 11 (v := ?_) ?_ hHeld ?_
      rotate_left 1
      (intro W hSw; (try dsimp only at hSw); go_simp; try with_reducible rfl)
      (try simp only [putA, putB, putC, putD])
      refine tkD 9 12 (v := ?_) ?_ hHeld ?_
      rotate_left 1
      (intro W hSw; (try dsimp only at hSw); go_simp; try with_reducible rfl)
      (try simp only [putA, putB, putC, putD])
      refine tkD 10 13 (v := ?_) ?_ hHeld ?_
      rotate_left 1
      (intro W hSw; (try dsimp only at hSw); go_simp; try with_reducible rfl)
      (try simp only [putA, putB, putC, putD])
      refine tkC 11 14 (fun W _ => rCWhole_any (65536) (281474976710656) (by decide +kernel) W) hHeld ?_
      (try simp only [putA, putB, putC, putD])
      refine tkC 12 15 (fun W _ => rCIn_any (c.f 63) (0) (281474976710656) W) hHeld ?_
      (try simp only [putA, putB, putC, putD])
      cases H2 : inC (0) (281474976710656) (c.f 63)
      case false =>
        refine tkD 13 16 (v := ?_) ?_ hHeld ?_
        rotate_left 1
        (intro W hSw; (try dsimp only at hSw); go_simp; try with_reducible rfl)
        (try simp only [putA, putB, putC, putD])
        refine tkD 14 17 (v := ?_) ?_ hHeld ?_
        rotate_left 1
        (intro W hSw; (try dsimp only at hSw); go_simp; try with_reducible rfl)
        (try simp only [putA, putB, putC, putD])
        refine wpAnyH_skipD 15 18 (by kernel_rfl) (by kernel_rfl) (by kernel_rfl) (by kernel_rfl) (by rfl) (fun _ _ _ h => h) hHeld ?_
        (try simp only [putA, putB, putC, putD])
        refine wpAnyH_skipD 16 19 (by kernel_rfl) (by kernel_rfl) (by kernel_rfl) (by kernel_rfl) (by rfl) (fun _ _ _ h => h) hHeld ?_
        (try simp only [putA, putB, putC, putD])
        refine wpAnyH_skipD 17 20 (by kernel_rfl) (by kernel_rfl) (by kernel_rfl) (by kernel_rfl) (by rfl) (fun _ _ _ h => h) hHeld ?_
        (try simp only [putA, putB, putC, putD])
        refine wpAnyH_skipD 18 21 (by kernel_rfl) (by kernel_rfl) (by kernel_rfl) (by kernel_rfl) (by rfl) (fun _ _ _ h => h) hHeld ?_
        (try simp only [putA, putB, putC, putD])
        refine tkD 19 22 (v := ?_) ?_ hHeld ?_
        rotate_left 1
        (intro W hSw; (try dsimp only at hSw); go_simp; try with_reducible rfl)
        (try simp only [putA, putB, putC, putD])
        refine tkD 20 23 (v := ?_) ?_ hHeld ?_
        rotate_left 1
        (intro W hSw; (try dsimp only at hSw); go_simp; try with_reducible rfl)
        (try simp only [putA, putB, putC, putD])
        refine wpAnyH_skipD 21 24 (by kernel_rfl) (by kernel_rfl) (by kernel_rfl) (by kernel_rfl) (by rfl) (fun _ _ _ h => h) hHeld ?_
        (try simp only [putA, putB, putC, putD])
        refine wpAnyH_skipD 22 25 (by kernel_rfl) (by kernel_rfl) (by kernel_rfl) (by kernel_rfl) (by rfl) (fun _ _ _ h => h) hHeld ?_
        (try simp only [putA, putB, putC, putD])
        refine wpAnyH_skipD 23 26 (by kernel_rfl) (by kernel_rfl) (by kernel_rfl) (by kernel_rfl) (by rfl) (fun _ _ _ h => h) hHeld ?_
        (try simp only [putA, putB, putC, putD])
        refine wpAnyH_skipD 24 27 (by kernel_rfl) (by kernel_rfl) (by kernel_rfl) (by kernel_rfl) (by rfl) (fun _ _ _ h => h) hHeld ?_
        (try simp only [putA, putB, putC, putD])
        refine tkD 25 28 (v := ?_) ?_ hHeld ?_
        rotate_left 1
        (intro W hSw; (try dsimp only at hSw); go_simp; try with_reducible rfl)
        (try simp only [putA, putB, putC, putD])
        refine tkD 26 29 (v := ?_) ?_ hHeld ?_
        rotate_left 1
        (intro W hSw; (try dsimp only at hSw); go_simp; try with_reducible rfl)
        (try simp only [putA, putB, putC, putD])
        refine wpAnyH_skipD 27 30 (by kernel_rfl) (by kernel_rfl) (by kernel_rfl) (by kernel_rfl) (by rfl) (fun _ _ _ h => h) hHeld ?_
        (try simp only [putA, putB, putC, putD])
        refine wpAnyH_skipD 28 31 (by kernel_rfl) (by kernel_rfl) (by kernel_rfl) (by kernel_rfl) (by rfl) (fun _ _ _ h => h) hHeld ?_
        (try simp only [putA, putB, putC, putD])
        refine wpAnyH_skipD 29 32 (by kernel_rfl) (by kernel_rfl) (by kernel_rfl) (by kernel_rfl) (by rfl) (fun _ _ _ h => h) hHeld ?_
        (try simp only [putA, putB, putC, putD])
        refine tkD 30 33 (v := ?_) ?_ hHeld ?_
        rotate_left 1
        (intro W hSw; (try dsimp only at hSw); go_simp; try with_reducible rfl)
        (try simp only [putA, putB, putC, putD])
        refine tkD 31 34 (v := ?_) ?_ hHeld ?_
        rotate_left 1
        (intro W hSw; (try dsimp only at hSw); go_simp; try with_reducible rfl)
        (try simp only [putA, putB, putC, putD])
        refine wpAnyH_skipD 32 35 (by kernel_rfl) (by kernel_rfl) (by kernel_rfl) (by kernel_rfl) (by rfl) (fun _ _ _ h => h) hHeld ?_
        (try simp only [putA, putB, putC, putD])
        refine wpAnyH_skipD 33 36 (by kernel_rfl) (by kernel_rfl) (by kernel_rfl) (by kernel_rfl) (by rfl) (fun _ _ _ h => h) hHeld ?_
        (try simp only [putA, putB, putC, putD])
        refine wpAnyH_skipD 34 37 (by kernel_rfl) (by kernel_rfl) (by kernel_rfl) (by kernel_rfl) (by rfl) (fun _ _ _ h => h) hHeld ?_
        (try simp only [putA, putB, putC, putD])
        refine tkD 35 38 (v := ?_) ?_ hHeld ?_
        rotate_left 1
        (intro W hSw; (try dsimp only at hSw); go_simp; try with_reducible rfl)
        (try simp only [putA, putB, putC, putD])
        refine tkD 36 39 (v := ?_) ?_ hHeld ?_
        rotate_left 1
        (intro W hSw; (try dsimp only at hSw); go_simp; try with_reducible rfl)
        (try simp only [putA, putB, putC, putD])
        refine wpAnyH_skipD 37 40 (by kernel_rfl) (by kernel_rfl) (by kernel_rfl) (by kernel_rfl) (by rfl) (fun _ _ _ h => h) hHeld ?_
        (try simp only [putA, putB, putC, putD])
        refine wpAnyH_skipD 38 41 (by kernel_rfl) (by kernel_rfl) (by kernel_rfl) (by kernel_rfl) (by rfl) (fun _ _ _ h => h) hHeld ?_
        (try simp only [putA, putB, putC, putD])
        refine wpAnyH_skipD 39 42 (by kernel_rfl) (by kernel_rfl) (by kernel_rfl) (by kernel_rfl) (by rfl) (fun _ _ _ h => h) hHeld ?_
        (try simp only [putA, putB, putC, putD])
        refine tkD 40 43 (v := ?_) ?_ hHeld ?_
        rotate_left 1
        (intro W hSw; (try dsimp only at hSw); go_simp; try with_reducible rfl)
        (try simp only [putA, putB, putC, putD])
        refine tkD 41 2 (v := ?_) ?_ hHeld ?_
        rotate_left 1
        (intro W hSw; (try dsimp only at hSw); go_simp; try with_reducible rfl)
        (try simp only [putA, putB, putC, putD])
        refine wpAnyH_done (by kernel_rfl) ?_ _
        clear hHeld
        go_wp2
        go_ret
        exact ⟨retB (by simp only [rCRestB, decide_eq_true H0, decide_eq_true H1, H2, Bool.true_and, Bool.false_and]), by repeat (first | exact Below.refl _ _ | assumption | refine Below.setCell ?_ (by first | omega | (simp; done) | (simp; omega)) _ | refine Below.alloc ?_ (by first | omega | (simp; done) | (simp; omega)) _ | refine below_drewN ?_ _ | refine Below.drew ?_ | refine Below.trans ?_ (Below.mono (by assumption) (by first | omega | (simp; done) | (simp; omega))))⟩
      case true =>
        refine tkD 13 16 (v := ?_) ?_ hHeld ?_
        rotate_left 1
        (intro W hSw; (try dsimp only at hSw); go_simp; try with_reducible rfl)
        (try simp only [putA, putB, putC, putD])
        refine tkD 14 17 (v := ?_) ?_ hHeld ?_
        rotate_left 1
        (intro W hSw; (try dsimp only at hSw); go_simp; try with_reducible rfl)
        (try simp only [putA, putB, putC, putD])
        refine tkD 15 18 (v := ?_) ?_ hHeld ?_
        rotate_left 1
        (intro W hSw; (try dsimp only at hSw); go_simp; try with_reducible rfl)
        (try simp only [putA, putB, putC, putD])
        refine tkD 16 19 (v := ?_) ?_ hHeld ?_
        rotate_left 1
        (intro W hSw; (try dsimp only at hSw); go_simp; try with_reducible rfl)
        (try simp only [putA, putB, putC, putD])
        refine tkC 17 20 (fun W _ => rCWhole_any (16384) (70368744177664) (by decide +kernel) W) hHeld ?_
        (try simp only [putA, putB, putC, putD])
        refine tkC 18 21 (fun W _ => rCIn_any (c.f 64) (0) (70368744177664) W) hHeld ?_
        (try simp only [putA, putB, putC, putD])
        cases H3 : inC (0) (70368744177664) (c.f 64)
        case false =>
          refine tkD 19 22 (v := ?_) ?_ hHeld ?_
          rotate_left 1
          (intro W hSw; (try dsimp only at hSw); go_simp; try with_reducible rfl)
          (try simp only [putA, putB, putC, putD])
          refine tkD 20 23 (v := ?_) ?_ hHeld ?_
          rotate_left 1
          (intro W hSw; (try dsimp only at hSw); go_simp; try with_reducible rfl)
          (try simp only [putA, putB, putC, putD])
          refine wpAnyH_skipD 21 24 (by kernel_rfl) (by kernel_rfl) (by kernel_rfl) (by kernel_rfl) (by rfl) (fun _ _ _ h => h) hHeld ?_
          (try simp only [putA, putB, putC, putD])
          refine wpAnyH_skipD 22 25 (by kernel_rfl) (by kernel_rfl) (by kernel_rfl) (by kernel_rfl) (by rfl) (fun _ _ _ h => h) hHeld ?_
          (try simp only [putA, putB, putC, putD])
          refine wpAnyH_skipD 23 26 (by kernel_rfl) (by kernel_rfl) (by kernel_rfl) (by kernel_rfl) (by rfl) (fun _ _ _ h => h) hHeld ?_
          (try simp only [putA, putB, putC, putD])
          refine wpAnyH_skipD 24 27 (by kernel_rfl) (by kernel_rfl) (by kernel_rfl) (by kernel_rfl) (by rfl) (fun _ _ _ h => h) hHeld ?_
          (try simp only [putA, putB, putC, putD])
          refine tkD 25 28 (v := ?_) ?_ hHeld ?_
          rotate_left 1
          (intro W hSw; (try dsimp only at hSw); go_simp; try with_reducible rfl)
          (try simp only [putA, putB, putC, putD])
          refine tkD 26 29 (v := ?_) ?_ hHeld ?_
          rotate_left 1
          (intro W hSw; (try dsimp only at hSw); go_simp; try with_reducible rfl)
          (try simp only [putA, putB, putC, putD])
          refine wpAnyH_skipD 27 30 (by kernel_rfl) (by kernel_rfl) (by kernel_rfl) (by kernel_rfl) (by rfl) (fun _ _ _ h => h) hHeld ?_
          (try simp only [putA, putB, putC, putD])
          refine wpAnyH_skipD 28 31 (by kernel_rfl) (by kernel_rfl) (by kernel_rfl) (by kernel_rfl) (by rfl) (fun _ _ _ h => h) hHeld ?_
          (try simp only [putA, putB, putC, putD])
          refine wpAnyH_skipD 29 32 (by kernel_rfl) (by kernel_rfl) (by kernel_rfl) (by kernel_rfl) (by rfl) (fun _ _ _ h => h) hHeld ?_
          (try simp only [putA, putB, putC, putD])
          refine tkD 30 33 (v := ?_) ?_ hHeld ?_
          rotate_left 1
          (intro W hSw; (try dsimp only at hSw); go_simp; try with_reducible rfl)
          (try simp only [putA, putB, putC, putD])
          refine tkD 31 34 (v := ?_) ?_ hHeld ?_
          rotate_left 1
          (intro W hSw; (try dsimp only at hSw); go_simp; try with_reducible rfl)
          (try simp only [putA, putB, putC, putD])
          refine wpAnyH_skipD 32 35 (by kernel_rfl) (by kernel_rfl) (by kernel_rfl) (by kernel_rfl) (by rfl) (fun _ _ _ h => h) hHeld ?_
          (try simp only [putA, putB, putC, putD])
          refine wpAnyH_skipD 33 36 (by kernel_rfl) (by kernel_rfl) (by kernel_rfl) (by kernel_rfl) (by rfl) (fun _ _ _ h => h) hHeld ?_
          (try simp only [putA, putB, putC, putD])
          refine wpAnyH_skipD 34 37 (by kernel_rfl) (by kernel_rfl) (by kernel_rfl) (by kernel_rfl) (by rfl) (fun _ _ _ h => h) hHeld ?_
          (try simp only [putA, putB, putC, putD])
          refine tkD 35 38 (v := ?_) ?_ hHeld ?_
          rotate_left 1
          (intro W hSw; (try dsimp only at hSw); go_simp; try with_reducible rfl)
          (try simp only [putA, putB, putC, putD])
          refine tkD 36 39 (v := ?_) ?_ hHeld ?_
          rotate_left 1
          (intro W hSw; (try dsimp only at hSw); go_simp; try with_reducible rfl)
          (try simp only [putA, putB, putC, putD])
          refine wpAnyH_skipD 37 40 (by kernel_rfl) (by kernel_rfl) (by kernel_rfl) (by kernel_rfl) (by rfl) (fun _ _ _ h => h) hHeld ?_
          (try simp only [putA, putB, putC, putD])
          refine wpAnyH_skipD 38 41 (by kernel_rfl) (by kernel_rfl) (by kernel_rfl) (by kernel_rfl) (by rfl) (fun _ _ _ h => h) hHeld ?_
          (try simp only [putA, putB, putC, putD])
          refine wpAnyH_skipD 39 42 (by kernel_rfl) (by kernel_rfl) (by kernel_rfl) (by kernel_rfl) (by rfl) (fun _ _ _ h => h) hHeld ?_
          (try simp only [putA, putB, putC, putD])
          refine tkD 40 43 (v := ?_) ?_ hHeld ?_
          rotate_left 1
          (intro W hSw; (try dsimp only at hSw); go_simp; try with_reducible rfl)
          (try simp only [putA, putB, putC, putD])
          refine tkD 41 2 (v := ?_) ?_ hHeld ?_
          rotate_left 1
          (intro W hSw; (try dsimp only at hSw); go_simp; try with_reducible rfl)
          (try simp only [putA, putB, putC, putD])
          refine wpAnyH_done (by kernel_rfl) ?_ _
          clear hHeld
          go_wp2
          go_ret
          exact ⟨retB (by simp only [rCRestB, decide_eq_true H0, decide_eq_true H1, H2, H3, Bool.true_and, Bool.false_and]), by repeat (first | exact Below.refl _ _ | assumption | refine Below.setCell ?_ (by first | omega | (simp; done) | (simp; omega)) _ | refine Below.alloc ?_ (by first | omega | (simp; done) | (simp; omega)) _ | refine below_drewN ?_ _ | refine Below.drew ?_ | refine Below.trans ?_ (Below.mono (by assumption) (by first | omega | (simp; done) | (simp; omega))))⟩
        case true =>
          refine tkD 19 22 (v := ?_) ?_ hHeld ?_
          rotate_left 1
          (intro W hSw; (try dsimp only at hSw); go_simp; try with_reducible rfl)
          (try simp only [putA, putB, putC, putD])
          refine tkD 20 23 (v := ?_) ?_ hHeld ?_
          rotate_left 1
          (intro W hSw; (try dsimp only at hSw); go_simp; try with_reducible rfl)
          (try simp only [putA, putB, putC, putD])
          refine tkD 21 24 (v := ?_) ?_ hHeld ?_
          rotate_left 1
          (intro W hSw; (try dsimp only at hSw); go_simp; try with_reducible rfl)
          (try simp only [putA, putB, putC, putD])
          refine tkD 22 25 (v := ?_) ?_ hHeld ?_
          rotate_left 1
          (intro W hSw; (try dsimp only at hSw); go_simp; try with_reducible rfl)
          (try simp only [putA, putB, putC, putD])
          refine tkC 23 26 (fun W _ => rCWhole_any (16384) (70368744177664) (by decide +kernel) W) hHeld ?_
          (try simp only [putA, putB, putC, putD])
          refine tkC 24 27 (fun W _ => rCIn_any (c.f 65) (0) (70368744177664) W) hHeld ?_
          (try simp only [putA, putB, putC, putD])
          cases H4 : inC (0) (70368744177664) (c.f 65)
          case false =>
            refine tkD 25 28 (v := ?_) ?_ hHeld ?_
            rotate_left 1
            (intro W hSw; (try dsimp only at hSw); go_simp; try with_reducible rfl)
            (try simp only [putA, putB, putC, putD])
            refine tkD 26 29 (v := ?_) ?_ hHeld ?_
            rotate_left 1
            (intro W hSw; (try dsimp only at hSw); go_simp; try with_reducible rfl)
            (try simp only [putA, putB, putC, putD])
            refine wpAnyH_skipD 27 30 (by kernel_rfl) (by kernel_rfl) (by kernel_rfl) (by kernel_rfl) (by rfl) (fun _ _ _ h => h) hHeld ?_
            (try simp only [putA, putB, putC, putD])
            refine wpAnyH_skipD 28 31 (by kernel_rfl) (by kernel_rfl) (by kernel_rfl) (by kernel_rfl) (by rfl) (fun _ _ _ h => h) hHeld ?_
            (try simp only [putA, putB, putC, putD])
            refine wpAnyH_skipD 29 32 (by kernel_rfl) (by kernel_rfl) (by kernel_rfl) (by kernel_rfl) (by rfl) (fun _ _ _ h => h) hHeld ?_
            (try simp only [putA, putB, putC, putD])
            refine tkD 30 33 (v := ?_) ?_ hHeld ?_
            rotate_left 1
            (intro W hSw; (try dsimp only at hSw); go_simp; try with_reducible rfl)
            (try simp only [putA, putB, putC, putD])
            refine tkD 31 34 (v := ?_) ?_ hHeld ?_
            rotate_left 1
            (intro W hSw; (try dsimp only at hSw); go_simp; try with_reducible rfl)
            (try simp only [putA, putB, putC, putD])
            refine wpAnyH_skipD 32 35 (by kernel_rfl) (by kernel_rfl) (by kernel_rfl) (by kernel_rfl) (by rfl) (fun _ _ _ h => h) hHeld ?_
            (try simp only [putA, putB, putC, putD])
            refine wpAnyH_skipD 33 36 (by kernel_rfl) (by kernel_rfl) (by kernel_rfl) (by kernel_rfl) (by rfl) (fun _ _ _ h => h) hHeld ?_
            (try simp only [putA, putB, putC, putD])
            refine wpAnyH_skipD 34 37 (by kernel_rfl) (by kernel_rfl) (by kernel_rfl) (by kernel_rfl) (by rfl) (fun _ _ _ h => h) hHeld ?_
            (try simp only [putA, putB, putC, putD])
            refine tkD 35 38 (v := ?_) ?_ hHeld ?_
            rotate_left 1
            (intro W hSw; (try dsimp only at hSw); go_simp; try with_reducible rfl)
            (try simp only [putA, putB, putC, putD])
            refine tkD 36 39 (v := ?_) ?_ hHeld ?_
            rotate_left 1
            (intro W hSw; (try dsimp only at hSw); go_simp; try with_reducible rfl)
            (try simp only [putA, putB, putC, putD])
            refine wpAnyH_skipD 37 40 (by kernel_rfl) (by kernel_rfl) (by kernel_rfl) (by kernel_rfl) (by rfl) (fun _ _ _ h => h) hHeld ?_
            (try simp only [putA, putB, putC, putD])
            refine wpAnyH_skipD 38 41 (by kernel_rfl) (by kernel_rfl) (by kernel_rfl) (by kernel_rfl) (by rfl) (fun _ _ _ h => h) hHeld ?_
            (try simp only [putA, putB, putC, putD])
            refine wpAnyH_skipD 39 42 (by kernel_rfl) (by kernel_rfl) (by kernel_rfl) (by kernel_rfl) (by rfl) (fun _ _ _ h => h) hHeld ?_
            (try simp only [putA, putB, putC, putD])
            refine tkD 40 43 (v := ?_) ?_ hHeld ?_
            rotate_left 1
            (intro W hSw; (try dsimp only at hSw); go_simp; try with_reducible rfl)
            (try simp only [putA, putB, putC, putD])
            refine tkD 41 2 (v := ?_) ?_ hHeld ?_
            rotate_left 1
            (intro W hSw; (try dsimp only at hSw); go_simp; try with_reducible rfl)
            (try simp only [putA, putB, putC, putD])
            refine wpAnyH_done (by kernel_rfl) ?_ _
            clear hHeld
            go_wp2
            go_ret
            exact ⟨retB (by simp only [rCRestB, decide_eq_true H0, decide_eq_true H1, H2, H3, H4, Bool.true_and, Bool.false_and]), by repeat (first | exact Below.refl _ _ | assumption | refine Below.setCell ?_ (by first | omega | (simp; done) | (simp; omega)) _ | refine Below.alloc ?_ (by first | omega | (simp; done) | (simp; omega)) _ | refine below_drewN ?_ _ | refine Below.drew ?_ | refine Below.trans ?_ (Below.mono (by assumption) (by first | omega | (simp; done) | (simp; omega))))⟩
          case true =>
            refine tkD 25 28 (v := ?_) ?_ hHeld ?_
            rotate_left 1
            (intro W hSw; (try dsimp only at hSw); go_simp; try with_reducible rfl)
            (try simp only [putA, putB, putC, putD])
            refine tkD 26 29 (v := ?_) ?_ hHeld ?_
            rotate_left 1
            (intro W hSw; (try dsimp only at hSw); go_simp; try with_reducible rfl)
            (try simp only [putA, putB, putC, putD])
            refine tkD 27 30 (v := ?_) ?_ hHeld ?_
            rotate_left 1
            (intro W hSw; (try dsimp only at hSw); go_simp; try with_reducible rfl)
            (try simp only [putA, putB, putC, putD])
            refine tkD 28 31 (v := ?_) ?_ hHeld ?_
            rotate_left 1
            (intro W hSw; (try dsimp only at hSw); go_simp; try with_reducible rfl)
            (try simp only [putA, putB, putC, putD])
            refine tkC 29 32 (fun W _ => rCIn_any (c.f 66) (0) (4294967296) W) hHeld ?_
            (try simp only [putA, putB, putC, putD])
            cases H5 : inC (0) (4294967296) (c.f 66)
            case false =>
              refine tkD 30 33 (v := ?_) ?_ hHeld ?_
              rotate_left 1
              (intro W hSw; (try dsimp only at hSw); go_simp; try with_reducible rfl)
              (try simp only [putA, putB, putC, putD])
              refine tkD 31 34 (v := ?_) ?_ hHeld ?_
              rotate_left 1
              (intro W hSw; (try dsimp only at hSw); go_simp; try with_reducible rfl)
              (try simp only [putA, putB, putC, putD])
              refine wpAnyH_skipD 32 35 (by kernel_rfl) (by kernel_rfl) (by kernel_rfl) (by kernel_rfl) (by rfl) (fun _ _ _ h => h) hHeld ?_
              (try simp only [putA, putB, putC, putD])
              refine wpAnyH_skipD 33 36 (by kernel_rfl) (by kernel_rfl) (by kernel_rfl) (by kernel_rfl) (by rfl) (fun _ _ _ h => h) hHeld ?_
              (try simp only [putA, putB, putC, putD])
              refine wpAnyH_skipD 34 37 (by kernel_rfl) (by kernel_rfl) (by kernel_rfl) (by kernel_rfl) (by rfl) (fun _ _ _ h => h) hHeld ?_
              (try simp only [putA, putB, putC, putD])
              refine tkD 35 38 (v := ?_) ?_ hHeld ?_
              rotate_left 1
              (intro W hSw; (try dsimp only at hSw); go_simp; try with_reducible rfl)
              (try simp only [putA, putB, putC, putD])
              refine tkD 36 39 (v := ?_) ?_ hHeld ?_
              rotate_left 1
              (intro W hSw; (try dsimp only at hSw); go_simp; try with_reducible rfl)
              (try simp only [putA, putB, putC, putD])
              refine wpAnyH_skipD 37 40 (by kernel_rfl) (by kernel_rfl) (by kernel_rfl) (by kernel_rfl) (by rfl) (fun _ _ _ h => h) hHeld ?_
              (try simp only [putA, putB, putC, putD])
              refine wpAnyH_skipD 38 41 (by kernel_rfl) (by kernel_rfl) (by kernel_rfl) (by kernel_rfl) (by rfl) (fun _ _ _ h => h) hHeld ?_
              (try simp only [putA, putB, putC, putD])
              refine wpAnyH_skipD 39 42 (by kernel_rfl) (by kernel_rfl) (by kernel_rfl) (by kernel_rfl) (by rfl) (fun _ _ _ h => h) hHeld ?_
              (try simp only [putA, putB, putC, putD])
              refine tkD 40 43 (v := ?_) ?_ hHeld ?_
              rotate_left 1
              (intro W hSw; (try dsimp only at hSw); go_simp; try with_reducible rfl)
              (try simp only [putA, putB, putC, putD])
              refine tkD 41 2 (v := ?_) ?_ hHeld ?_
              rotate_left 1
              (intro W hSw; (try dsimp only at hSw); go_simp; try with_reducible rfl)
              (try simp only [putA, putB, putC, putD])
              refine wpAnyH_done (by kernel_rfl) ?_ _
              clear hHeld
              go_wp2
              go_ret
              exact ⟨retB (by simp only [rCRestB, decide_eq_true H0, decide_eq_true H1, H2, H3, H4, H5, Bool.true_and, Bool.false_and]), by repeat (first | exact Below.refl _ _ | assumption | refine Below.setCell ?_ (by first | omega | (simp; done) | (simp; omega)) _ | refine Below.alloc ?_ (by first | omega | (simp; done) | (simp; omega)) _ | refine below_drewN ?_ _ | refine Below.drew ?_ | refine Below.trans ?_ (Below.mono (by assumption) (by first | omega | (simp; done) | (simp; omega))))⟩
            case true =>
              refine tkD 30 33 (v := ?_) ?_ hHeld ?_
              rotate_left 1
              (intro W hSw; (try dsimp only at hSw); go_simp; try with_reducible rfl)
              (try simp only [putA, putB, putC, putD])
              refine tkD 31 34 (v := ?_) ?_ hHeld ?_
              rotate_left 1
              (intro W hSw; (try dsimp only at hSw); go_simp; try with_reducible rfl)
              (try simp only [putA, putB, putC, putD])
              refine tkD 32 35 (v := ?_) ?_ hHeld ?_
              rotate_left 1
              (intro W hSw; (try dsimp only at hSw); go_simp; try with_reducible rfl)
              (try simp only [putA, putB, putC, putD])
              refine tkD 33 36 (v := ?_) ?_ hHeld ?_
              rotate_left 1
              (intro W hSw; (try dsimp only at hSw); go_simp; try with_reducible rfl)
              (try simp only [putA, putB, putC, putD])
              rcases Classical.em (c.f 67 ≤ 536870912) with H6 | H6
              · skip
                refine tkD 34 37 (v := ?_) ?_ hHeld ?_
                rotate_left 1
                (intro W hSw; (try dsimp only at hSw); go_simp; try with_reducible rfl)
                (try simp only [putA, putB, putC, putD])
                refine tkD 35 38 (v := ?_) ?_ hHeld ?_
                rotate_left 1
                (intro W hSw; (try dsimp only at hSw); go_simp; try with_reducible rfl)
                (try simp only [putA, putB, putC, putD])
                refine tkD 36 39 (v := ?_) ?_ hHeld ?_
                rotate_left 1
                (intro W hSw; (try dsimp only at hSw); go_simp; try with_reducible rfl)
                (try simp only [putA, putB, putC, putD])
                refine tkD 37 40 (v := ?_) ?_ hHeld ?_
                rotate_left 1
                (intro W hSw; (try dsimp only at hSw); go_simp; try with_reducible rfl)
                (try simp only [putA, putB, putC, putD])
                refine tkD 38 41 (v := ?_) ?_ hHeld ?_
                rotate_left 1
                (intro W hSw; (try dsimp only at hSw); go_simp; try with_reducible rfl)
                (try simp only [putA, putB, putC, putD])
                rcases Classical.em (c.f 68 ≤ 2147483648) with H7 | H7
                · skip
                  refine tkD 39 42 (v := ?_) ?_ hHeld ?_
                  rotate_left 1
                  (intro W hSw; (try dsimp only at hSw); go_simp; try with_reducible rfl)
                  (try simp only [putA, putB, putC, putD])
                  refine tkD 40 43 (v := ?_) ?_ hHeld ?_
                  rotate_left 1
                  (intro W hSw; (try dsimp only at hSw); go_simp; try with_reducible rfl)
                  (try simp only [putA, putB, putC, putD])
                  refine tkD 41 2 (v := ?_) ?_ hHeld ?_
                  rotate_left 1
                  (intro W hSw; (try dsimp only at hSw); go_simp; try with_reducible rfl)
                  (try simp only [putA, putB, putC, putD])
                  refine wpAnyH_done (by kernel_rfl) ?_ _
                  clear hHeld
                  go_wp2
                  go_ret
                  exact ⟨retB (by simp only [rCRestB, decide_eq_true H0, decide_eq_true H1, H2, H3, H4, H5, decide_eq_true H6, decide_eq_true H7, Bool.true_and, Bool.false_and]), by repeat (first | exact Below.refl _ _ | assumption | refine Below.setCell ?_ (by first | omega | (simp; done) | (simp; omega)) _ | refine Below.alloc ?_ (by first | omega | (simp; done) | (simp; omega)) _ | refine below_drewN ?_ _ | refine Below.drew ?_ | refine Below.trans ?_ (Below.mono (by assumption) (by first | omega | (simp; done) | (simp; omega))))⟩
                · skip
                  refine tkD 39 42 (v := ?_) ?_ hHeld ?_
                  rotate_left 1
                  (intro W hSw; (try dsimp only at hSw); go_simp; try with_reducible rfl)
                  (try simp only [putA, putB, putC, putD])
                  refine tkD 40 43 (v := ?_) ?_ hHeld ?_
                  rotate_left 1
                  (intro W hSw; (try dsimp only at hSw); go_simp; try with_reducible rfl)
                  (try simp only [putA, putB, putC, putD])
                  refine tkD 41 2 (v := ?_) ?_ hHeld ?_
                  rotate_left 1
                  (intro W hSw; (try dsimp only at hSw); go_simp; try with_reducible rfl)
                  (try simp only [putA, putB, putC, putD])
                  refine wpAnyH_done (by kernel_rfl) ?_ _
                  clear hHeld
                  go_wp2
                  go_ret
                  exact ⟨retB (by simp only [rCRestB, decide_eq_true H0, decide_eq_true H1, H2, H3, H4, H5, decide_eq_true H6, decide_eq_false (show ¬ (c.f 68 ≤ 2147483648) by omega), Bool.true_and, Bool.false_and]), by repeat (first | exact Below.refl _ _ | assumption | refine Below.setCell ?_ (by first | omega | (simp; done) | (simp; omega)) _ | refine Below.alloc ?_ (by first | omega | (simp; done) | (simp; omega)) _ | refine below_drewN ?_ _ | refine Below.drew ?_ | refine Below.trans ?_ (Below.mono (by assumption) (by first | omega | (simp; done) | (simp; omega))))⟩
              · skip
                refine tkD 34 37 (v := ?_) ?_ hHeld ?_
                rotate_left 1
                (intro W hSw; (try dsimp only at hSw); go_simp; try with_reducible rfl)
                (try simp only [putA, putB, putC, putD])
                refine tkD 35 38 (v := ?_) ?_ hHeld ?_
                rotate_left 1
                (intro W hSw; (try dsimp only at hSw); go_simp; try with_reducible rfl)
                (try simp only [putA, putB, putC, putD])
                refine tkD 36 39 (v := ?_) ?_ hHeld ?_
                rotate_left 1
                (intro W hSw; (try dsimp only at hSw); go_simp; try with_reducible rfl)
                (try simp only [putA, putB, putC, putD])
                refine wpAnyH_skipD 37 40 (by kernel_rfl) (by kernel_rfl) (by kernel_rfl) (by kernel_rfl) (by rfl) (fun _ _ _ h => h) hHeld ?_
                (try simp only [putA, putB, putC, putD])
                refine wpAnyH_skipD 38 41 (by kernel_rfl) (by kernel_rfl) (by kernel_rfl) (by kernel_rfl) (by rfl) (fun _ _ _ h => h) hHeld ?_
                (try simp only [putA, putB, putC, putD])
                refine wpAnyH_skipD 39 42 (by kernel_rfl) (by kernel_rfl) (by kernel_rfl) (by kernel_rfl) (by rfl) (fun _ _ _ h => h) hHeld ?_
                (try simp only [putA, putB, putC, putD])
                refine tkD 40 43 (v := ?_) ?_ hHeld ?_
                rotate_left 1
                (intro W hSw; (try dsimp only at hSw); go_simp; try with_reducible rfl)
                (try simp only [putA, putB, putC, putD])
                refine tkD 41 2 (v := ?_) ?_ hHeld ?_
                rotate_left 1
                (intro W hSw; (try dsimp only at hSw); go_simp; try with_reducible rfl)
                (try simp only [putA, putB, putC, putD])
                refine wpAnyH_done (by kernel_rfl) ?_ _
                clear hHeld
                go_wp2
                go_ret
                exact ⟨retB (by simp only [rCRestB, decide_eq_true H0, decide_eq_true H1, H2, H3, H4, H5, decide_eq_false (show ¬ (c.f 67 ≤ 536870912) by omega), Bool.true_and, Bool.false_and]), by repeat (first | exact Below.refl _ _ | assumption | refine Below.setCell ?_ (by first | omega | (simp; done) | (simp; omega)) _ | refine Below.alloc ?_ (by first | omega | (simp; done) | (simp; omega)) _ | refine below_drewN ?_ _ | refine Below.drew ?_ | refine Below.trans ?_ (Below.mono (by assumption) (by first | omega | (simp; done) | (simp; omega))))⟩
    · skip
      refine tkD 6 9 (v := ?_) ?_ hHeld ?_
      rotate_left 1
      (intro W hSw; (try dsimp only at hSw); go_simp; try with_reducible rfl)
      (try simp only [putA, putB, putC, putD])
      refine tkD 7 10 (v := ?_) ?_ hHeld ?_
      rotate_left 1
      (intro W hSw; (try dsimp only at hSw); go_simp; try with_reducible rfl)
      (try simp only [putA, putB, putC, putD])
      refine tkD 8 11 (v := ?_) ?_ hHeld ?_
      rotate_left 1
      (intro W hSw; (try dsimp only at hSw); go_simp; try with_reducible rfl)
      (try simp only [putA, putB, putC, putD])
      refine wpAnyH_skipD 9 12 (by kernel_rfl) (by kernel_rfl) (by kernel_rfl) (by kernel_rfl) (by rfl) (fun _ _ _ h => h) hHeld ?_
      (try simp only [putA, putB, putC, putD])
      refine wpAnyH_skipD 10 13 (by kernel_rfl) (by kernel_rfl) (by kernel_rfl) (by kernel_rfl) (by rfl) (fun _ _ _ h => h) hHeld ?_
      (try simp only [putA, putB, putC, putD])
      refine wpAnyH_skipD 11 14 (by kernel_rfl) (by kernel_rfl) (by kernel_rfl) (by kernel_rfl) (by rfl) (fun _ _ _ h => h) hHeld ?_
      (try simp only [putA, putB, putC, putD])
      refine wpAnyH_skipD 12 15 (by kernel_rfl) (by kernel_rfl) (by kernel_rfl) (by kernel_rfl) (by rfl) (fun _ _ _ h => h) hHeld ?_
      (try simp only [putA, putB, putC, putD])
      refine tkD 13 16 (v := ?_) ?_ hHeld ?_
      rotate_left 1
      (intro W hSw; (try dsimp only at hSw); go_simp; try with_reducible rfl)
      (try simp only [putA, putB, putC, putD])
      refine tkD 14 17 (v := ?_) ?_ hHeld ?_
      rotate_left 1
      (intro W hSw; (try dsimp only at hSw); go_simp; try with_reducible rfl)
      (try simp only [putA, putB, putC, putD])
      refine wpAnyH_skipD 15 18 (by kernel_rfl) (by kernel_rfl) (by kernel_rfl) (by kernel_rfl) (by rfl) (fun _ _ _ h => h) hHeld ?_
      (try simp only [putA, putB, putC, putD])
      refine wpAnyH_skipD 16 19 (by kernel_rfl) (by kernel_rfl) (by kernel_rfl) (by kernel_rfl) (by rfl) (fun _ _ _ h => h) hHeld ?_
      (try simp only [putA, putB, putC, putD])
      refine wpAnyH_skipD 17 20 (by kernel_rfl) (by kernel_rfl) (by kernel_rfl) (by kernel_rfl) (by rfl) (fun _ _ _ h => h) hHeld ?_
      (try simp only [putA, putB, putC, putD])
      refine wpAnyH_skipD 18 21 (by kernel_rfl) (by kernel_rfl) (by kernel_rfl) (by kernel_rfl) (by rfl) (fun _ _ _ h => h) hHeld ?_
      (try simp only [putA, putB, putC, putD])
      refine tkD 19 22 (v := ?_) ?_ hHeld ?_
      rotate_left 1
      (intro W hSw; (try dsimp only at hSw); go_simp; try with_reducible rfl)
      (try simp only [putA, putB, putC, putD])
      refine tkD 20 23 (v := ?_) ?_ hHeld ?_
      rotate_left 1
      (intro W hSw; (try dsimp only at hSw); go_simp; try with_reducible rfl)
      (try simp only [putA, putB, putC, putD])
      refine wpAnyH_skipD 21 24 (by kernel_rfl) (by kernel_rfl) (by kernel_rfl) (by kernel_rfl) (by rfl) (fun _ _ _ h => h) hHeld ?_
      (try simp only [putA, putB, putC, putD])
      refine wpAnyH_skipD 22 25 (by kernel_rfl) (by kernel_rfl) (by kernel_rfl) (by kernel_rfl) (by rfl) (fun _ _ _ h => h) hHeld ?_
      (try simp only [putA, putB, putC, putD])
      refine wpAnyH_skipD 23 26 (by kernel_rfl) (by kernel_rfl) (by kernel_rfl) (by kernel_rfl) (by rfl) (fun _ _ _ h => h) hHeld ?_
      (try simp only [putA, putB, putC, putD])
      refine wpAnyH_skipD 24 27 (by kernel_rfl) (by kernel_rfl) (by kernel_rfl) (by kernel_rfl) (by rfl) (fun _ _ _ h => h) hHeld ?_
      (try simp only [putA, putB, putC, putD])
      refine tkD 25 28 (v := ?_) ?_ hHeld ?_
      rotate_left 1
      (intro W hSw; (try dsimp only at hSw); go_simp; try with_reducible rfl)
      (try simp only [putA, putB, putC, putD])
      refine tkD 26 29 (v := ?_) ?_ hHeld ?_
      rotate_left 1
      (intro W hSw; (try dsimp only at hSw); go_simp; try with_reducible rfl)
      (try simp only [putA, putB, putC, putD])
      refine wpAnyH_skipD 27 30 (by kernel_rfl) (by kernel_rfl) (by kernel_rfl) (by kernel_rfl) (by rfl) (fun _ _ _ h => h) hHeld ?_
      (try simp only [putA, putB, putC, putD])
      refine wpAnyH_skipD 28 31 (by kernel_rfl) (by kernel_rfl) (by kernel_rfl) (by kernel_rfl) (by rfl) (fun _ _ _ h => h) hHeld ?_
      (try simp only [putA, putB, putC, putD])
      refine wpAnyH_skipD 29 32 (by kernel_rfl) (by kernel_rfl) (by kernel_rfl) (by kernel_rfl) (by rfl) (fun _ _ _ h => h) hHeld ?_
      (try simp only [putA, putB, putC, putD])
      refine tkD 30 33 (v := ?_) ?_ hHeld ?_
      rotate_left 1
      (intro W hSw; (try dsimp only at hSw); go_simp; try with_reducible rfl)
      (try simp only [putA, putB, putC, putD])
      refine tkD 31 34 (v := ?_) ?_ hHeld ?_
      rotate_left 1
      (intro W hSw; (try dsimp only at hSw); go_simp; try with_reducible rfl)
      (try simp only [putA, putB, putC, putD])
      refine wpAnyH_skipD 32 35 (by kernel_rfl) (by kernel_rfl) (by kernel_rfl) (by kernel_rfl) (by rfl) (fun _ _ _ h => h) hHeld ?_
      (try simp only [putA, putB, putC, putD])
      refine wpAnyH_skipD 33 36 (by kernel_rfl) (by kernel_rfl) (by kernel_rfl) (by kernel_rfl) (by rfl) (fun _ _ _ h => h) hHeld ?_
      (try simp only [putA, putB, putC, putD])
      refine wpAnyH_skipD 34 37 (by kernel_rfl) (by kernel_rfl) (by kernel_rfl) (by kernel_rfl) (by rfl) (fun _ _ _ h => h) hHeld ?_
      (try simp only [putA, putB, putC, putD])
      refine tkD 35 38 (v := ?_) ?_ hHeld ?_
      rotate_left 1
      (intro W hSw; (try dsimp only at hSw); go_simp; try with_reducible rfl)
      (try simp only [putA, putB, putC, putD])
      refine tkD 36 39 (v := ?_) ?_ hHeld ?_
      rotate_left 1
      (intro W hSw; (try dsimp only at hSw); go_simp; try with_reducible rfl)
      (try simp only [putA, putB, putC, putD])
      refine wpAnyH_skipD 37 40 (by kernel_rfl) (by kernel_rfl) (by kernel_rfl) (by kernel_rfl) (by rfl) (fun _ _ _ h => h) hHeld ?_
      (try simp only [putA, putB, putC, putD])
      refine wpAnyH_skipD 38 41 (by kernel_rfl) (by kernel_rfl) (by kernel_rfl) (by kernel_rfl) (by rfl) (fun _ _ _ h => h) hHeld ?_
      (try simp only [putA, putB, putC, putD])
      refine wpAnyH_skipD 39 42 (by kernel_rfl) (by kernel_rfl) (by kernel_rfl) (by kernel_rfl) (by rfl) (fun _ _ _ h => h) hHeld ?_
      (try simp only [putA, putB, putC, putD])
      refine tkD 40 43 (v := ?_) ?_ hHeld ?_
      rotate_left 1
      (intro W hSw; (try dsimp only at hSw); go_simp; try with_reducible rfl)
      (try simp only [putA, putB, putC, putD])
      refine tkD 41 2 (v := ?_) ?_ hHeld ?_
      rotate_left 1
      (intro W hSw; (try dsimp only at hSw); go_simp; try with_reducible rfl)
      (try simp only [putA, putB, putC, putD])
      refine wpAnyH_done (by kernel_rfl) ?_ _
      clear hHeld
      go_wp2
      go_ret
      exact ⟨retB (by simp only [rCRestB, decide_eq_true H0, decide_eq_false (show ¬ (c.f 62 ≤ 2) by omega), Bool.true_and, Bool.false_and]), by repeat (first | exact Below.refl _ _ | assumption | refine Below.setCell ?_ (by first | omega | (simp; done) | (simp; omega)) _ | refine Below.alloc ?_ (by first | omega | (simp; done) | (simp; omega)) _ | refine below_drewN ?_ _ | refine Below.drew ?_ | refine Below.trans ?_ (Below.mono (by assumption) (by first | omega | (simp; done) | (simp; omega))))⟩
  · skip
    refine tkD 2 5 (v := ?_) ?_ hHeld ?_
    rotate_left 1
    (intro W hSw; (try dsimp only at hSw); go_simp; try with_reducible rfl)
    (try simp only [putA, putB, putC, putD])
    refine tkD 3 6 (v := ?_) ?_ hHeld ?_
    rotate_left 1
    (intro W hSw; (try dsimp only at hSw); go_simp; try with_reducible rfl)
    (try simp only [putA, putB, putC, putD])
    refine wpAnyH_skipD 4 7 (by kernel_rfl) (by kernel_rfl) (by kernel_rfl) (by kernel_rfl) (by rfl) (fun _ _ _ h => h) hHeld ?_
    (try simp only [putA, putB, putC, putD])
    refine wpAnyH_skipD 5 8 (by kernel_rfl) (by kernel_rfl) (by kernel_rfl) (by kernel_rfl) (by rfl) (fun _ _ _ h => h) hHeld ?_
    (try simp only [putA, putB, putC, putD])
    refine wpAnyH_skipD 6 9 (by kernel_rfl) (by kernel_rfl) (by kernel_rfl) (by kernel_rfl) (by rfl) (fun _ _ _ h => h) hHeld ?_
    (try simp only [putA, putB, putC, putD])
    refine tkD 7 10 (v := ?_) ?_ hHeld ?_
    rotate_left 1
    (intro W hSw; (try dsimp only at hSw); go_simp; try with_reducible rfl)
    (try simp only [putA, putB, putC, putD])
    refine tkD 8 11 (v := ?_) ?_ hHeld ?_
    rotate_left 1
    (intro W hSw; (try dsimp only at hSw); go_simp; try with_reducible rfl)
    (try simp only [putA, putB, putC, putD])
    refine wpAnyH_skipD 9 12 (by kernel_rfl) (by kernel_rfl) (by kernel_rfl) (by kernel_rfl) (by rfl) (fun _ _ _ h => h) hHeld ?_
    (try simp only [putA, putB, putC, putD])
    refine wpAnyH_skipD 10 13 (by kernel_rfl) (by kernel_rfl) (by kernel_rfl) (by kernel_rfl) (by rfl) (fun _ _ _ h => h) hHeld ?_
    (try simp only [putA, putB, putC, putD])
    refine wpAnyH_skipD 11 14 (by kernel_rfl) (by kernel_rfl) (by kernel_rfl) (by kernel_rfl) (by rfl) (fun _ _ _ h => h) hHeld ?_
    (try simp only [putA, putB, putC, putD])
    refine wpAnyH_skipD 12 15 (by kernel_rfl) (by kernel_rfl) (by kernel_rfl) (by kernel_rfl) (by rfl) (fun _ _ _ h => h) hHeld ?_
    (try simp only [putA, putB, putC, putD])
    refine tkD 13 16 (v := ?_) ?_ hHeld ?_
    rotate_left 1
    (intro W hSw; (try dsimp only at hSw); go_simp; try with_reducible rfl)
    (try simp only [putA, putB, putC, putD])
    refine tkD 14 17 (v := ?_) ?_ hHeld ?_
    rotate_left 1
    (intro W hSw; (try dsimp only at hSw); go_simp; try with_reducible rfl)
    (try simp only [putA, putB, putC, putD])
    refine wpAnyH_skipD 15 18 (by kernel_rfl) (by kernel_rfl) (by kernel_rfl) (by kernel_rfl) (by rfl) (fun _ _ _ h => h) hHeld ?_
    (try simp only [putA, putB, putC, putD])
    refine wpAnyH_skipD 16 19 (by kernel_rfl) (by kernel_rfl) (by kernel_rfl) (by kernel_rfl) (by rfl) (fun _ _ _ h => h) hHeld ?_
    (try simp only [putA, putB, putC, putD])
    refine wpAnyH_skipD 17 20 (by kernel_rfl) (by kernel_rfl) (by kernel_rfl) (by kernel_rfl) (by rfl) (fun _ _ _ h => h) hHeld ?_
    (try simp only [putA, putB, putC, putD])
    refine wpAnyH_skipD 18 21 (by kernel_rfl) (by kernel_rfl) (by kernel_rfl) (by kernel_rfl) (by rfl) (fun _ _ _ h => h) hHeld ?_
    (try simp only [putA, putB, putC, putD])
    refine tkD 19 22 (v := ?_) ?_ hHeld ?_
    rotate_left 1
    (intro W hSw; (try dsimp only at hSw); go_simp; try with_reducible rfl)
    (try simp only [putA, putB, putC, putD])
    refine tkD 20 23 (v := ?_) ?_ hHeld ?_
    rotate_left 1
    (intro W hSw; (try dsimp only at hSw); go_simp; try with_reducible rfl)
    (try simp only [putA, putB, putC, putD])
    refine wpAnyH_skipD 21 24 (by kernel_rfl) (by kernel_rfl) (by kernel_rfl) (by kernel_rfl) (by rfl) (fun _ _ _ h => h) hHeld ?_
    (try simp only [putA, putB, putC, putD])
    refine wpAnyH_skipD 22 25 (by kernel_rfl) (by kernel_rfl) (by kernel_rfl) (by kernel_rfl) (by rfl) (fun _ _ _ h => h) hHeld ?_
    (try simp only [putA, putB, putC, putD])
    refine wpAnyH_skipD 23 26 (by kernel_rfl) (by kernel_rfl) (by kernel_rfl) (by kernel_rfl) (by rfl) (fun _ _ _ h => h) hHeld ?_
    (try simp only [putA, putB, putC, putD])
    refine wpAnyH_skipD 24 27 (by kernel_rfl) (by kernel_rfl) (by kernel_rfl) (by kernel_rfl) (by rfl) (fun _ _ _ h => h) hHeld ?_
    (try simp only [putA, putB, putC, putD])
    refine tkD 25 28 (v := ?_) ?_ hHeld ?_
    rotate_left 1
    (intro W hSw; (try dsimp only at hSw); go_simp; try with_reducible rfl)
    (try simp only [putA, putB, putC, putD])
    refine tkD 26 29 (v := ?_) ?_ hHeld ?_
    rotate_left 1
    (intro W hSw; (try dsimp only at hSw); go_simp; try with_reducible rfl)
    (try simp only [putA, putB, putC, putD])
    refine wpAnyH_skipD 27 30 (by kernel_rfl) (by kernel_rfl) (by kernel_rfl) (by kernel_rfl) (by rfl) (fun _ _ _ h => h) hHeld ?_
    (try simp only [putA, putB, putC, putD])
    refine wpAnyH_skipD 28 31 (by kernel_rfl) (by kernel_rfl) (by kernel_rfl) (by kernel_rfl) (by rfl) (fun _ _ _ h => h) hHeld ?_
    (try simp only [putA, putB, putC, putD])
    refine wpAnyH_skipD 29 32 (by kernel_rfl) (by kernel_rfl) (by kernel_rfl) (by kernel_rfl) (by rfl) (fun _ _ _ h => h) hHeld ?_
    (try simp only [putA, putB, putC, putD])
    refine tkD 30 33 (v := ?_) ?_ hHeld ?_
    rotate_left 1
    (intro W hSw; (try dsimp only at hSw); go_simp; try with_reducible rfl)
    (try simp only [putA, putB, putC, putD])
    refine tkD 31 34 (v := ?_) ?_ hHeld ?_
    rotate_left 1
    (intro W hSw; (try dsimp only at hSw); go_simp; try with_reducible rfl)
    (try simp only [putA, putB, putC, putD])
    refine wpAnyH_skipD 32 35 (by kernel_rfl) (by kernel_rfl) (by kernel_rfl) (by kernel_rfl) (by rfl) (fun _ _ _ h => h) hHeld ?_
    (try simp only [putA, putB, putC, putD])
    refine wpAnyH_skipD 33 36 (by kernel_rfl) (by kernel_rfl) (by kernel_rfl) (by kernel_rfl) (by rfl) (fun _ _ _ h => h) hHeld ?_
    (try simp only [putA, putB, putC, putD])
    refine wpAnyH_skipD 34 37 (by kernel_rfl) (by kernel_rfl) (by kernel_rfl) (by kernel_rfl) (by rfl) (fun _ _ _ h => h) hHeld ?_
    (try simp only [putA, putB, putC, putD])
    refine tkD 35 38 (v := ?_) ?_ hHeld ?_
    rotate_left 1
    (intro W hSw; (try dsimp only at hSw); go_simp; try with_reducible rfl)
    (try simp only [putA, putB, putC, putD])
    refine tkD 36 39 (v := ?_) ?_ hHeld ?_
    rotate_left 1
    (intro W hSw; (try dsimp only at hSw); go_simp; try with_reducible rfl)
    (try simp only [putA, putB, putC, putD])
    refine wpAnyH_skipD 37 40 (by kernel_rfl) (by kernel_rfl) (by kernel_rfl) (by kernel_rfl) (by rfl) (fun _ _ _ h => h) hHeld ?_
    (try simp only [putA, putB, putC, putD])
    refine wpAnyH_skipD 38 41 (by kernel_rfl) (by kernel_rfl) (by kernel_rfl) (by kernel_rfl) (by rfl) (fun _ _ _ h => h) hHeld ?_
    (try simp only [putA, putB, putC, putD])
    refine wpAnyH_skipD 39 42 (by kernel_rfl) (by kernel_rfl) (by kernel_rfl) (by kernel_rfl) (by rfl) (fun _ _ _ h => h) hHeld ?_
    (try simp only [putA, putB, putC, putD])
    refine tkD 40 43 (v := ?_) ?_ hHeld ?_
    rotate_left 1
    (intro W hSw; (try dsimp only at hSw); go_simp; try with_reducible rfl)
    (try simp only [putA, putB, putC, putD])
    refine tkD 41 2 (v := ?_) ?_ hHeld ?_
    rotate_left 1
    (intro W hSw; (try dsimp only at hSw); go_simp; try with_reducible rfl)
    (try simp only [putA, putB, putC, putD])
    refine wpAnyH_done (by kernel_rfl) ?_ _
    clear hHeld
    go_wp2
    go_ret
    exact ⟨retB (by simp only [rCRestB, decide_eq_false (show ¬ (0 ≤ c.f 62) by omega), Bool.true_and, Bool.false_and]), by repeat (first | exact Below.refl _ _ | assumption | refine Below.setCell ?_ (by first | omega | (simp; done) | (simp; omega)) _ | refine Below.alloc ?_ (by first | omega | (simp; done) | (simp; omega)) _ | refine below_drewN ?_ _ | refine Below.drew ?_ | refine Below.trans ?_ (Below.mono (by assumption) (by first | omega | (simp; done) | (simp; omega))))⟩
end Go.Proofs.Ytbpmbdnhfkfkhaa
