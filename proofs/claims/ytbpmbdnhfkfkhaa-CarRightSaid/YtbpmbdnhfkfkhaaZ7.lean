/- The document's car: body. -/
import Derived.Test.YtbpmbdnhfkfkhaaZ2
namespace Go.Proofs.Ytbpmbdnhfkfkhaa
open Go.RowKit
set_option linter.unusedVariables false
set_option linter.unusedSimpArgs false

def rCBodyB (c : Cr) : Bool := inC (274877906944) (35184372088832) (c.f 0) && (inC (68719476736) (281474976710656) (c.f 1) && (inC (68719476736) (281474976710656) (c.f 2) && (inC (68719476736) (281474976710656) (c.f 3) && (inC (2147483648) (17179869184) (c.f 69) && (inC (0) (4294967296) (c.f 70) && (inC (0) (4294967296) (c.f 71)))))))
set_option maxRecDepth 100000 in
set_option maxHeartbeats 8000000 in
theorem rCBody_any (c : Cr) (w : World) : Calls Try.prog 25 #[.agg (carL c).toArray] w fun e w' => e = .returned (.bool (rCBodyB c)) ∧ Below w.heap.size w w' := by
  have B0 := BW.new w _ (carL c) 37 rfl
  have k1 := B0.c 1 _ rfl
  have k2 := B0.c 2 _ rfl
  have k3 := B0.c 3 _ rfl
  have HB := Lib.hid B0
  clear B0
  go_enter Try.func25, Try.ntmps25
  go_wp2_with fail
  refine wp_gen (S := fun W => (BW W w.heap.size (carL c) ∧ BW W (w.heap.size + 1) [.int .i64 (c.f 1), .int .i64 (c.f 2), .int .i64 (c.f 3)]) ∧ Below w.heap.size w W) ⟨⟨HB.out.alloc _, BW.new _ _ [_, _, _] _ (by simp)⟩, by repeat (first | exact Below.refl _ _ | assumption | refine Below.setCell ?_ (by first | omega | (simp; done) | (simp; omega)) _ | refine Below.alloc ?_ (by first | omega | (simp; done) | (simp; omega)) _ | refine below_drewN ?_ _ | refine Below.drew ?_ | refine Below.trans ?_ (Below.mono (by assumption) (by first | omega | (simp; done) | (simp; omega))))⟩ (fun W1 hS => ?_)
  have B1 := Lib.hid hS.1.1.drew
  have B2 := Lib.hid hS.1.2.drew
  have BL := Lib.hid hS.2
  clear hS k1 k2 k3 HB
  refine wp_region_held_drew (S := fun W => (W.cell? ⟨w.heap.size, 0, none⟩ = some (.int .i64 (c.f 0)) ∧ W.cell? ⟨w.heap.size, 69, none⟩ = some (.int .i64 (c.f 69)) ∧ W.cell? ⟨w.heap.size, 70, none⟩ = some (.int .i64 (c.f 70)) ∧ W.cell? ⟨w.heap.size, 71, none⟩ = some (.int .i64 (c.f 71))) ∧ W.cell? ⟨w.heap.size + 1, 0, none⟩ = some (.int .i64 (c.f 1)) ∧ W.cell? ⟨w.heap.size + 1, 1, none⟩ = some (.int .i64 (c.f 2)) ∧ W.cell? ⟨w.heap.size + 1, 2, none⟩ = some (.int .i64 (c.f 3))) (by kernel_rfl) ⟨⟨B1.out.c 0 _ rfl, B1.out.c 69 _ rfl, B1.out.c 70 _ rfl, B1.out.c 71 _ rfl⟩, B2.out.c 0 _ rfl, B2.out.c 1 _ rfl, B2.out.c 2 _ rfl⟩ (fun hHeld => ?_)
  clear B1 B2
  refine tkD 0 6 (v := ?_) ?_ hHeld ?_
  rotate_left 1
  (intro W hSw; (try dsimp only at hSw); go_simp; try with_reducible rfl)
  (try simp only [putA, putB, putC, putD])
  refine tkD 1 7 (v := ?_) ?_ hHeld ?_
  rotate_left 1
  (intro W hSw; (try dsimp only at hSw); go_simp; try with_reducible rfl)
  (try simp only [putA, putB, putC, putD])
  refine tkC 2 8 (fun W _ => rCWhole_any (64) (274877906944) (by decide +kernel) W) hHeld ?_
  (try simp only [putA, putB, putC, putD])
  refine tkC 3 9 (fun W _ => rCWhole_any (8192) (35184372088832) (by decide +kernel) W) hHeld ?_
  (try simp only [putA, putB, putC, putD])
  refine tkC 4 10 (fun W _ => rCIn_any (c.f 0) (274877906944) (35184372088832) W) hHeld ?_
  (try simp only [putA, putB, putC, putD])
  cases H0 : inC (274877906944) (35184372088832) (c.f 0)
  case false =>
    refine tkD 5 11 (v := ?_) ?_ hHeld ?_
    rotate_left 1
    (intro W hSw; (try dsimp only at hSw); go_simp; try with_reducible rfl)
    (try simp only [putA, putB, putC, putD])
    refine wpAnyH_skipD 6 12 (by kernel_rfl) (by kernel_rfl) (by kernel_rfl) (by kernel_rfl) (by rfl) (fun _ _ _ h => h) hHeld ?_
    (try simp only [putA, putB, putC, putD])
    refine wpAnyH_skipD 7 13 (by kernel_rfl) (by kernel_rfl) (by kernel_rfl) (by kernel_rfl) (by rfl) (fun _ _ _ h => h) hHeld ?_
    (try simp only [putA, putB, putC, putD])
    refine wpAnyH_skipD 8 14 (by kernel_rfl) (by kernel_rfl) (by kernel_rfl) (by kernel_rfl) (by rfl) (fun _ _ _ h => h) hHeld ?_
    (try simp only [putA, putB, putC, putD])
    refine wpAnyH_skipD 9 15 (by kernel_rfl) (by kernel_rfl) (by kernel_rfl) (by kernel_rfl) (by rfl) (fun _ _ _ h => h) hHeld ?_
    (try simp only [putA, putB, putC, putD])
    refine wpAnyH_skipD 10 16 (by kernel_rfl) (by kernel_rfl) (by kernel_rfl) (by kernel_rfl) (by rfl) (fun _ _ _ h => h) hHeld ?_
    (try simp only [putA, putB, putC, putD])
    refine tkD 11 17 (v := ?_) ?_ hHeld ?_
    rotate_left 1
    (intro W hSw; (try dsimp only at hSw); go_simp; try with_reducible rfl)
    (try simp only [putA, putB, putC, putD])
    refine tkD 12 18 (v := ?_) ?_ hHeld ?_
    rotate_left 1
    (intro W hSw; (try dsimp only at hSw); go_simp; try with_reducible rfl)
    (try simp only [putA, putB, putC, putD])
    refine wpAnyH_skipD 13 19 (by kernel_rfl) (by kernel_rfl) (by kernel_rfl) (by kernel_rfl) (by rfl) (fun _ _ _ h => h) hHeld ?_
    (try simp only [putA, putB, putC, putD])
    refine wpAnyH_skipD 14 20 (by kernel_rfl) (by kernel_rfl) (by kernel_rfl) (by kernel_rfl) (by rfl) (fun _ _ _ h => h) hHeld ?_
    (try simp only [putA, putB, putC, putD])
    refine wpAnyH_skipD 15 21 (by kernel_rfl) (by kernel_rfl) (by kernel_rfl) (by kernel_rfl) (by rfl) (fun _ _ _ h => h) hHeld ?_
    (try simp only [putA, putB, putC, putD])
    refine wpAnyH_skipD 16 22 (by kernel_rfl) (by kernel_rfl) (by kernel_rfl) (by kernel_rfl) (by rfl) (fun _ _ _ h => h) hHeld ?_
    (try simp only [putA, putB, putC, putD])
    refine wpAnyH_skipD 17 23 (by kernel_rfl) (by kernel_rfl) (by kernel_rfl) (by kernel_rfl) (by rfl) (fun _ _ _ h => h) hHeld ?_
    (try simp only [putA, putB, putC, putD])
    refine tkD 18 24 (v := ?_) ?_ hHeld ?_
    rotate_left 1
    (intro W hSw; (try dsimp only at hSw); go_simp; try with_reducible rfl)
    (try simp only [putA, putB, putC, putD])
    refine tkD 19 25 (v := ?_) ?_ hHeld ?_
    rotate_left 1
    (intro W hSw; (try dsimp only at hSw); go_simp; try with_reducible rfl)
    (try simp only [putA, putB, putC, putD])
    refine wpAnyH_skipD 20 26 (by kernel_rfl) (by kernel_rfl) (by kernel_rfl) (by kernel_rfl) (by rfl) (fun _ _ _ h => h) hHeld ?_
    (try simp only [putA, putB, putC, putD])
    refine wpAnyH_skipD 21 27 (by kernel_rfl) (by kernel_rfl) (by kernel_rfl) (by kernel_rfl) (by rfl) (fun _ _ _ h => h) hHeld ?_
    (try simp only [putA, putB, putC, putD])
    refine wpAnyH_skipD 22 28 (by kernel_rfl) (by kernel_rfl) (by kernel_rfl) (by kernel_rfl) (by rfl) (fun _ _ _ h => h) hHeld ?_
    (try simp only [putA, putB, putC, putD])
    refine wpAnyH_skipD 23 29 (by kernel_rfl) (by kernel_rfl) (by kernel_rfl) (by kernel_rfl) (by rfl) (fun _ _ _ h => h) hHeld ?_
    (try simp only [putA, putB, putC, putD])
    refine wpAnyH_skipD 24 30 (by kernel_rfl) (by kernel_rfl) (by kernel_rfl) (by kernel_rfl) (by rfl) (fun _ _ _ h => h) hHeld ?_
    (try simp only [putA, putB, putC, putD])
    refine tkD 25 31 (v := ?_) ?_ hHeld ?_
    rotate_left 1
    (intro W hSw; (try dsimp only at hSw); go_simp; try with_reducible rfl)
    (try simp only [putA, putB, putC, putD])
    refine tkD 26 32 (v := ?_) ?_ hHeld ?_
    rotate_left 1
    (intro W hSw; (try dsimp only at hSw); go_simp; try with_reducible rfl)
    (try simp only [putA, putB, putC, putD])
    refine wpAnyH_skipD 27 33 (by kernel_rfl) (by kernel_rfl) (by kernel_rfl) (by kernel_rfl) (by rfl) (fun _ _ _ h => h) hHeld ?_
    (try simp only [putA, putB, putC, putD])
    refine wpAnyH_skipD 28 34 (by kernel_rfl) (by kernel_rfl) (by kernel_rfl) (by kernel_rfl) (by rfl) (fun _ _ _ h => h) hHeld ?_
    (try simp only [putA, putB, putC, putD])
    refine wpAnyH_skipD 29 35 (by kernel_rfl) (by kernel_rfl) (by kernel_rfl) (by kernel_rfl) (by rfl) (fun _ _ _ h => h) hHeld ?_
    (try simp only [putA, putB, putC, putD])
    refine wpAnyH_skipD 30 36 (by kernel_rfl) (by kernel_rfl) (by kernel_rfl) (by kernel_rfl) (by rfl) (fun _ _ _ h => h) hHeld ?_
    (try simp only [putA, putB, putC, putD])
    refine tkD 31 37 (v := ?_) ?_ hHeld ?_
    rotate_left 1
    (intro W hSw; (try dsimp only at hSw); go_simp; try with_reducible rfl)
    (try simp only [putA, putB, putC, putD])
    refine tkD 32 38 (v := ?_) ?_ hHeld ?_
    rotate_left 1
    (intro W hSw; (try dsimp only at hSw); go_simp; try with_reducible rfl)
    (try simp only [putA, putB, putC, putD])
    refine wpAnyH_skipD 33 39 (by kernel_rfl) (by kernel_rfl) (by kernel_rfl) (by kernel_rfl) (by rfl) (fun _ _ _ h => h) hHeld ?_
    (try simp only [putA, putB, putC, putD])
    refine wpAnyH_skipD 34 40 (by kernel_rfl) (by kernel_rfl) (by kernel_rfl) (by kernel_rfl) (by rfl) (fun _ _ _ h => h) hHeld ?_
    (try simp only [putA, putB, putC, putD])
    refine wpAnyH_skipD 35 41 (by kernel_rfl) (by kernel_rfl) (by kernel_rfl) (by kernel_rfl) (by rfl) (fun _ _ _ h => h) hHeld ?_
    (try simp only [putA, putB, putC, putD])
    refine tkD 36 42 (v := ?_) ?_ hHeld ?_
    rotate_left 1
    (intro W hSw; (try dsimp only at hSw); go_simp; try with_reducible rfl)
    (try simp only [putA, putB, putC, putD])
    refine tkD 37 43 (v := ?_) ?_ hHeld ?_
    rotate_left 1
    (intro W hSw; (try dsimp only at hSw); go_simp; try with_reducible rfl)
    (try simp only [putA, putB, putC, putD])
    refine wpAnyH_skipD 38 44 (by kernel_rfl) (by kernel_rfl) (by kernel_rfl) (by kernel_rfl) (by rfl) (fun _ _ _ h => h) hHeld ?_
    (try simp only [putA, putB, putC, putD])
    refine wpAnyH_skipD 39 45 (by kernel_rfl) (by kernel_rfl) (by kernel_rfl) (by kernel_rfl) (by rfl) (fun _ _ _ h => h) hHeld ?_
    (try simp only [putA, putB, putC, putD])
    refine wpAnyH_skipD 40 46 (by kernel_rfl) (by kernel_rfl) (by kernel_rfl) (by kernel_rfl) (by rfl) (fun _ _ _ h => h) hHeld ?_
    (try simp only [putA, putB, putC, putD])
    refine tkD 41 47 (v := ?_) ?_ hHeld ?_
    rotate_left 1
    (intro W hSw; (try dsimp only at hSw); go_simp; try with_reducible rfl)
    (try simp only [putA, putB, putC, putD])
    refine tkD 42 2 (v := ?_) ?_ hHeld ?_
    rotate_left 1
    (intro W hSw; (try dsimp only at hSw); go_simp; try with_reducible rfl)
    (try simp only [putA, putB, putC, putD])
    refine wpAnyH_done (by kernel_rfl) ?_ _
    clear hHeld
    go_wp2
    go_ret
    exact ⟨retB (by simp only [rCBodyB, H0, Bool.true_and, Bool.false_and]), BL.out.drew⟩
  case true =>
    refine tkD 5 11 (v := ?_) ?_ hHeld ?_
    rotate_left 1
    (intro W hSw; (try dsimp only at hSw); go_simp; try with_reducible rfl)
    (try simp only [putA, putB, putC, putD])
    refine tkD 6 12 (v := ?_) ?_ hHeld ?_
    rotate_left 1
    (intro W hSw; (try dsimp only at hSw); go_simp; try with_reducible rfl)
    (try simp only [putA, putB, putC, putD])
    refine tkD 7 13 (v := ?_) ?_ hHeld ?_
    rotate_left 1
    (intro W hSw; (try dsimp only at hSw); go_simp; try with_reducible rfl)
    (try simp only [putA, putB, putC, putD])
    refine tkC 8 14 (fun W _ => rCWhole_any (16) (68719476736) (by decide +kernel) W) hHeld ?_
    (try simp only [putA, putB, putC, putD])
    refine tkC 9 15 (fun W _ => rCWhole_any (65536) (281474976710656) (by decide +kernel) W) hHeld ?_
    (try simp only [putA, putB, putC, putD])
    refine tkC 10 16 (fun W _ => rCIn_any (c.f 1) (68719476736) (281474976710656) W) hHeld ?_
    (try simp only [putA, putB, putC, putD])
    cases H1 : inC (68719476736) (281474976710656) (c.f 1)
    case false =>
      refine tkD 11 17 (v := ?_) ?_ hHeld ?_
      rotate_left 1
      (intro W hSw; (try dsimp only at hSw); go_simp; try with_reducible rfl)
      (try simp only [putA, putB, putC, putD])
      refine tkD 12 18 (v := ?_) ?_ hHeld ?_
      rotate_left 1
      (intro W hSw; (try dsimp only at hSw); go_simp; try with_reducible rfl)
      (try simp only [putA, putB, putC, putD])
      refine wpAnyH_skipD 13 19 (by kernel_rfl) (by kernel_rfl) (by kernel_rfl) (by kernel_rfl) (by rfl) (fun _ _ _ h => h) hHeld ?_
      (try simp only [putA, putB, putC, putD])
      refine wpAnyH_skipD 14 20 (by kernel_rfl) (by kernel_rfl) (by kernel_rfl) (by kernel_rfl) (by rfl) (fun _ _ _ h => h) hHeld ?_
      (try simp only [putA, putB, putC, putD])
      refine wpAnyH_skipD 15 21 (by kernel_rfl) (by kernel_rfl) (by kernel_rfl) (by kernel_rfl) (by rfl) (fun _ _ _ h => h) hHeld ?_
      (try simp only [putA, putB, putC, putD])
      refine wpAnyH_skipD 16 22 (by kernel_rfl) (by kernel_rfl) (by kernel_rfl) (by kernel_rfl) (by rfl) (fun _ _ _ h => h) hHeld ?_
      (try simp only [putA, putB, putC, putD])
      refine wpAnyH_skipD 17 23 (by kernel_rfl) (by kernel_rfl) (by kernel_rfl) (by kernel_rfl) (by rfl) (fun _ _ _ h => h) hHeld ?_
      (try simp only [putA, putB, putC, putD])
      refine tkD 18 24 (v := ?_) ?_ hHeld ?_
      rotate_left 1
      (intro W hSw; (try dsimp only at hSw); go_simp; try with_reducible rfl)
      (try simp only [putA, putB, putC, putD])
      refine tkD 19 25 (v := ?_) ?_ hHeld ?_
      rotate_left 1
      (intro W hSw; (try dsimp only at hSw); go_simp; try with_reducible rfl)
      (try simp only [putA, putB, putC, putD])
      refine wpAnyH_skipD 20 26 (by kernel_rfl) (by kernel_rfl) (by kernel_rfl) (by kernel_rfl) (by rfl) (fun _ _ _ h => h) hHeld ?_
      (try simp only [putA, putB, putC, putD])
      refine wpAnyH_skipD 21 27 (by kernel_rfl) (by kernel_rfl) (by kernel_rfl) (by kernel_rfl) (by rfl) (fun _ _ _ h => h) hHeld ?_
      (try simp only [putA, putB, putC, putD])
      refine wpAnyH_skipD 22 28 (by kernel_rfl) (by kernel_rfl) (by kernel_rfl) (by kernel_rfl) (by rfl) (fun _ _ _ h => h) hHeld ?_
      (try simp only [putA, putB, putC, putD])
      refine wpAnyH_skipD 23 29 (by kernel_rfl) (by kernel_rfl) (by kernel_rfl) (by kernel_rfl) (by rfl) (fun _ _ _ h => h) hHeld ?_
      (try simp only [putA, putB, putC, putD])
      refine wpAnyH_skipD 24 30 (by kernel_rfl) (by kernel_rfl) (by kernel_rfl) (by kernel_rfl) (by rfl) (fun _ _ _ h => h) hHeld ?_
      (try simp only [putA, putB, putC, putD])
      refine tkD 25 31 (v := ?_) ?_ hHeld ?_
      rotate_left 1
      (intro W hSw; (try dsimp only at hSw); go_simp; try with_reducible rfl)
      (try simp only [putA, putB, putC, putD])
      refine tkD 26 32 (v := ?_) ?_ hHeld ?_
      rotate_left 1
      (intro W hSw; (try dsimp only at hSw); go_simp; try with_reducible rfl)
      (try simp only [putA, putB, putC, putD])
      refine wpAnyH_skipD 27 33 (by kernel_rfl) (by kernel_rfl) (by kernel_rfl) (by kernel_rfl) (by rfl) (fun _ _ _ h => h) hHeld ?_
      (try simp only [putA, putB, putC, putD])
      refine wpAnyH_skipD 28 34 (by kernel_rfl) (by kernel_rfl) (by kernel_rfl) (by kernel_rfl) (by rfl) (fun _ _ _ h => h) hHeld ?_
      (try simp only [putA, putB, putC, putD])
      refine wpAnyH_skipD 29 35 (by kernel_rfl) (by kernel_rfl) (by kernel_rfl) (by kernel_rfl) (by rfl) (fun _ _ _ h => h) hHeld ?_
      (try simp only [putA, putB, putC, putD])
      refine wpAnyH_skipD 30 36 (by kernel_rfl) (by kernel_rfl) (by kernel_rfl) (by kernel_rfl) (by rfl) (fun _ _ _ h => h) hHeld ?_
      (try simp only [putA, putB, putC, putD])
      refine tkD 31 37 (v := ?_) ?_ hHeld ?_
      rotate_left 1
      (intro W hSw; (try dsimp only at hSw); go_simp; try with_reducible rfl)
      (try simp only [putA, putB, putC, putD])
      refine tkD 32 38 (v := ?_) ?_ hHeld ?_
      rotate_left 1
      (intro W hSw; (try dsimp only at hSw); go_simp; try with_reducible rfl)
      (try simp only [putA, putB, putC, putD])
      refine wpAnyH_skipD 33 39 (by kernel_rfl) (by kernel_rfl) (by kernel_rfl) (by kernel_rfl) (by rfl) (fun _ _ _ h => h) hHeld ?_
      (try simp only [putA, putB, putC, putD])
      refine wpAnyH_skipD 34 40 (by kernel_rfl) (by kernel_rfl) (by kernel_rfl) (by kernel_rfl) (by rfl) (fun _ _ _ h => h) hHeld ?_
      (try simp only [putA, putB, putC, putD])
      refine wpAnyH_skipD 35 41 (by kernel_rfl) (by kernel_rfl) (by kernel_rfl) (by kernel_rfl) (by rfl) (fun _ _ _ h => h) hHeld ?_
      (try simp only [putA, putB, putC, putD])
      refine tkD 36 42 (v := ?_) ?_ hHeld ?_
      rotate_left 1
      (intro W hSw; (try dsimp only at hSw); go_simp; try with_reducible rfl)
      (try simp only [putA, putB, putC, putD])
      refine tkD 37 43 (v := ?_) ?_ hHeld ?_
      rotate_left 1
      (intro W hSw; (try dsimp only at hSw); go_simp; try with_reducible rfl)
      (try simp only [putA, putB, putC, putD])
      refine wpAnyH_skipD 38 44 (by kernel_rfl) (by kernel_rfl) (by kernel_rfl) (by kernel_rfl) (by rfl) (fun _ _ _ h => h) hHeld ?_
      (try simp only [putA, putB, putC, putD])
      refine wpAnyH_skipD 39 45 (by kernel_rfl) (by kernel_rfl) (by kernel_rfl) (by kernel_rfl) (by rfl) (fun _ _ _ h => h) hHeld ?_
      (try simp only [putA, putB, putC, putD])
      refine wpAnyH_skipD 40 46 (by kernel_rfl) (by kernel_rfl) (by kernel_rfl) (by kernel_rfl) (by rfl) (fun _ _ _ h => h) hHeld ?_
      (try simp only [putA, putB, putC, putD])
      refine tkD 41 47 (v := ?_) ?_ hHeld ?_
      rotate_left 1
      (intro W hSw; (try dsimp only at hSw); go_simp; try with_reducible rfl)
      (try simp only [putA, putB, putC, putD])
      refine tkD 42 2 (v := ?_) ?_ hHeld ?_
      rotate_left 1
      (intro W hSw; (try dsimp only at hSw); go_simp; try with_reducible rfl)
      (try simp only [putA, putB, putC, putD])
      refine wpAnyH_done (by kernel_rfl) ?_ _
      clear hHeld
      go_wp2
      go_ret
      exact ⟨retB (by simp only [rCBodyB, H0, H1, Bool.true_and, Bool.false_and]), BL.out.drew⟩
    case true =>
      refine tkD 11 17 (v := ?_) ?_ hHeld ?_
      rotate_left 1
      (intro W hSw; (try dsimp only at hSw); go_simp; try with_reducible rfl)
      (try simp only [putA, putB, putC, putD])
      refine tkD 12 18 (v := ?_) ?_ hHeld ?_
      rotate_left 1
      (intro W hSw; (try dsimp only at hSw); go_simp; try with_reducible rfl)
      (try simp only [putA, putB, putC, putD])
      refine tkD 13 19 (v := ?_) ?_ hHeld ?_
      rotate_left 1
      (intro W hSw; (try dsimp only at hSw); go_simp; try with_reducible rfl)
      (try simp only [putA, putB, putC, putD])
      refine tkD 14 20 (v := ?_) ?_ hHeld ?_
      rotate_left 1
      (intro W hSw; (try dsimp only at hSw); go_simp; try with_reducible rfl)
      (try simp only [putA, putB, putC, putD])
      refine tkC 15 21 (fun W _ => rCWhole_any (16) (68719476736) (by decide +kernel) W) hHeld ?_
      (try simp only [putA, putB, putC, putD])
      refine tkC 16 22 (fun W _ => rCWhole_any (65536) (281474976710656) (by decide +kernel) W) hHeld ?_
      (try simp only [putA, putB, putC, putD])
      refine tkC 17 23 (fun W _ => rCIn_any (c.f 2) (68719476736) (281474976710656) W) hHeld ?_
      (try simp only [putA, putB, putC, putD])
      cases H2 : inC (68719476736) (281474976710656) (c.f 2)
      case false =>
        refine tkD 18 24 (v := ?_) ?_ hHeld ?_
        rotate_left 1
        (intro W hSw; (try dsimp only at hSw); go_simp; try with_reducible rfl)
        (try simp only [putA, putB, putC, putD])
        refine tkD 19 25 (v := ?_) ?_ hHeld ?_
        rotate_left 1
        (intro W hSw; (try dsimp only at hSw); go_simp; try with_reducible rfl)
        (try simp only [putA, putB, putC, putD])
        refine wpAnyH_skipD 20 26 (by kernel_rfl) (by kernel_rfl) (by kernel_rfl) (by kernel_rfl) (by rfl) (fun _ _ _ h => h) hHeld ?_
        (try simp only [putA, putB, putC, putD])
        refine wpAnyH_skipD 21 27 (by kernel_rfl) (by kernel_rfl) (by kernel_rfl) (by kernel_rfl) (by rfl) (fun _ _ _ h => h) hHeld ?_
        (try simp only [putA, putB, putC, putD])
        refine wpAnyH_skipD 22 28 (by kernel_rfl) (by kernel_rfl) (by kernel_rfl) (by kernel_rfl) (by rfl) (fun _ _ _ h => h) hHeld ?_
        (try simp only [putA, putB, putC, putD])
        refine wpAnyH_skipD 23 29 (by kernel_rfl) (by kernel_rfl) (by kernel_rfl) (by kernel_rfl) (by rfl) (fun _ _ _ h => h) hHeld ?_
        (try simp only [putA, putB, putC, putD])
        refine wpAnyH_skipD 24 30 (by kernel_rfl) (by kernel_rfl) (by kernel_rfl) (by kernel_rfl) (by rfl) (fun _ _ _ h => h) hHeld ?_
        (try simp only [putA, putB, putC, putD])
        refine tkD 25 31 (v := ?_) ?_ hHeld ?_
        rotate_left 1
        (intro W hSw; (try dsimp only at hSw); go_simp; try with_reducible rfl)
        (try simp only [putA, putB, putC, putD])
        refine tkD 26 32 (v := ?_) ?_ hHeld ?_
        rotate_left 1
        (intro W hSw; (try dsimp only at hSw); go_simp; try with_reducible rfl)
        (try simp only [putA, putB, putC, putD])
        refine wpAnyH_skipD 27 33 (by kernel_rfl) (by kernel_rfl) (by kernel_rfl) (by kernel_rfl) (by rfl) (fun _ _ _ h => h) hHeld ?_
        (try simp only [putA, putB, putC, putD])
        refine wpAnyH_skipD 28 34 (by kernel_rfl) (by kernel_rfl) (by kernel_rfl) (by kernel_rfl) (by rfl) (fun _ _ _ h => h) hHeld ?_
        (try simp only [putA, putB, putC, putD])
        refine wpAnyH_skipD 29 35 (by kernel_rfl) (by kernel_rfl) (by kernel_rfl) (by kernel_rfl) (by rfl) (fun _ _ _ h => h) hHeld ?_
        (try simp only [putA, putB, putC, putD])
        refine wpAnyH_skipD 30 36 (by kernel_rfl) (by kernel_rfl) (by kernel_rfl) (by kernel_rfl) (by rfl) (fun _ _ _ h => h) hHeld ?_
        (try simp only [putA, putB, putC, putD])
        refine tkD 31 37 (v := ?_) ?_ hHeld ?_
        rotate_left 1
        (intro W hSw; (try dsimp only at hSw); go_simp; try with_reducible rfl)
        (try simp only [putA, putB, putC, putD])
        refine tkD 32 38 (v := ?_) ?_ hHeld ?_
        rotate_left 1
        (intro W hSw; (try dsimp only at hSw); go_simp; try with_reducible rfl)
        (try simp only [putA, putB, putC, putD])
        refine wpAnyH_skipD 33 39 (by kernel_rfl) (by kernel_rfl) (by kernel_rfl) (by kernel_rfl) (by rfl) (fun _ _ _ h => h) hHeld ?_
        (try simp only [putA, putB, putC, putD])
        refine wpAnyH_skipD 34 40 (by kernel_rfl) (by kernel_rfl) (by kernel_rfl) (by kernel_rfl) (by rfl) (fun _ _ _ h => h) hHeld ?_
        (try simp only [putA, putB, putC, putD])
        refine wpAnyH_skipD 35 41 (by kernel_rfl) (by kernel_rfl) (by kernel_rfl) (by kernel_rfl) (by rfl) (fun _ _ _ h => h) hHeld ?_
        (try simp only [putA, putB, putC, putD])
        refine tkD 36 42 (v := ?_) ?_ hHeld ?_
        rotate_left 1
        (intro W hSw; (try dsimp only at hSw); go_simp; try with_reducible rfl)
        (try simp only [putA, putB, putC, putD])
        refine tkD 37 43 (v := ?_) ?_ hHeld ?_
        rotate_left 1
        (intro W hSw; (try dsimp only at hSw); go_simp; try with_reducible rfl)
        (try simp only [putA, putB, putC, putD])
        refine wpAnyH_skipD 38 44 (by kernel_rfl) (by kernel_rfl) (by kernel_rfl) (by kernel_rfl) (by rfl) (fun _ _ _ h => h) hHeld ?_
        (try simp only [putA, putB, putC, putD])
        refine wpAnyH_skipD 39 45 (by kernel_rfl) (by kernel_rfl) (by kernel_rfl) (by kernel_rfl) (by rfl) (fun _ _ _ h => h) hHeld ?_
        (try simp only [putA, putB, putC, putD])
        refine wpAnyH_skipD 40 46 (by kernel_rfl) (by kernel_rfl) (by kernel_rfl) (by kernel_rfl) (by rfl) (fun _ _ _ h => h) hHeld ?_
        (try simp only [putA, putB, putC, putD])
        refine tkD 41 47 (v := ?_) ?_ hHeld ?_
        rotate_left 1
        (intro W hSw; (try dsimp only at hSw); go_simp; try with_reducible rfl)
        (try simp only [putA, putB, putC, putD])
        refine tkD 42 2 (v := ?_) ?_ hHeld ?_
        rotate_left 1
        (intro W hSw; (try dsimp only at hSw); go_simp; try with_reducible rfl)
        (try simp only [putA, putB, putC, putD])
        refine wpAnyH_done (by kernel_rfl) ?_ _
        clear hHeld
        go_wp2
        go_ret
        exact ⟨retB (by simp only [rCBodyB, H0, H1, H2, Bool.true_and, Bool.false_and]), BL.out.drew⟩
      case true =>
        refine tkD 18 24 (v := ?_) ?_ hHeld ?_
        rotate_left 1
        (intro W hSw; (try dsimp only at hSw); go_simp; try with_reducible rfl)
        (try simp only [putA, putB, putC, putD])
        refine tkD 19 25 (v := ?_) ?_ hHeld ?_
        rotate_left 1
        (intro W hSw; (try dsimp only at hSw); go_simp; try with_reducible rfl)
        (try simp only [putA, putB, putC, putD])
        refine tkD 20 26 (v := ?_) ?_ hHeld ?_
        rotate_left 1
        (intro W hSw; (try dsimp only at hSw); go_simp; try with_reducible rfl)
        (try simp only [putA, putB, putC, putD])
        refine tkD 21 27 (v := ?_) ?_ hHeld ?_
        rotate_left 1
        (intro W hSw; (try dsimp only at hSw); go_simp; try with_reducible rfl)
        (try simp only [putA, putB, putC, putD])
        refine tkC 22 28 (fun W _ => rCWhole_any (16) (68719476736) (by decide +kernel) W) hHeld ?_
        (try simp only [putA, putB, putC, putD])
        refine tkC 23 29 (fun W _ => rCWhole_any (65536) (281474976710656) (by decide +kernel) W) hHeld ?_
        (try simp only [putA, putB, putC, putD])
        refine tkC 24 30 (fun W _ => rCIn_any (c.f 3) (68719476736) (281474976710656) W) hHeld ?_
        (try simp only [putA, putB, putC, putD])
        cases H3 : inC (68719476736) (281474976710656) (c.f 3)
        case false =>
          refine tkD 25 31 (v := ?_) ?_ hHeld ?_
          rotate_left 1
          (intro W hSw; (try dsimp only at hSw); go_simp; try with_reducible rfl)
          (try simp only [putA, putB, putC, putD])
          refine tkD 26 32 (v := ?_) ?_ hHeld ?_
          rotate_left 1
          (intro W hSw; (try dsimp only at hSw); go_simp; try with_reducible rfl)
          (try simp only [putA, putB, putC, putD])
          refine wpAnyH_skipD 27 33 (by kernel_rfl) (by kernel_rfl) (by kernel_rfl) (by kernel_rfl) (by rfl) (fun _ _ _ h => h) hHeld ?_
          (try simp only [putA, putB, putC, putD])
          refine wpAnyH_skipD 28 34 (by kernel_rfl) (by kernel_rfl) (by kernel_rfl) (by kernel_rfl) (by rfl) (fun _ _ _ h => h) hHeld ?_
          (try simp only [putA, putB, putC, putD])
          refine wpAnyH_skipD 29 35 (by kernel_rfl) (by kernel_rfl) (by kernel_rfl) (by kernel_rfl) (by rfl) (fun _ _ _ h => h) hHeld ?_
          (try simp only [putA, putB, putC, putD])
          refine wpAnyH_skipD 30 36 (by kernel_rfl) (by kernel_rfl) (by kernel_rfl) (by kernel_rfl) (by rfl) (fun _ _ _ h => h) hHeld ?_
          (try simp only [putA, putB, putC, putD])
          refine tkD 31 37 (v := ?_) ?_ hHeld ?_
          rotate_left 1
          (intro W hSw; (try dsimp only at hSw); go_simp; try with_reducible rfl)
          (try simp only [putA, putB, putC, putD])
          refine tkD 32 38 (v := ?_) ?_ hHeld ?_
          rotate_left 1
          (intro W hSw; (try dsimp only at hSw); go_simp; try with_reducible rfl)
          (try simp only [putA, putB, putC, putD])
          refine wpAnyH_skipD 33 39 (by kernel_rfl) (by kernel_rfl) (by kernel_rfl) (by kernel_rfl) (by rfl) (fun _ _ _ h => h) hHeld ?_
          (try simp only [putA, putB, putC, putD])
          refine wpAnyH_skipD 34 40 (by kernel_rfl) (by kernel_rfl) (by kernel_rfl) (by kernel_rfl) (by rfl) (fun _ _ _ h => h) hHeld ?_
          (try simp only [putA, putB, putC, putD])
          refine wpAnyH_skipD 35 41 (by kernel_rfl) (by kernel_rfl) (by kernel_rfl) (by kernel_rfl) (by rfl) (fun _ _ _ h => h) hHeld ?_
          (try simp only [putA, putB, putC, putD])
          refine tkD 36 42 (v := ?_) ?_ hHeld ?_
          rotate_left 1
          (intro W hSw; (try dsimp only at hSw); go_simp; try with_reducible rfl)
          (try simp only [putA, putB, putC, putD])
          refine tkD 37 43 (v := ?_) ?_ hHeld ?_
          rotate_left 1
          (intro W hSw; (try dsimp only at hSw); go_simp; try with_reducible rfl)
          (try simp only [putA, putB, putC, putD])
          refine wpAnyH_skipD 38 44 (by kernel_rfl) (by kernel_rfl) (by kernel_rfl) (by kernel_rfl) (by rfl) (fun _ _ _ h => h) hHeld ?_
          (try simp only [putA, putB, putC, putD])
          refine wpAnyH_skipD 39 45 (by kernel_rfl) (by kernel_rfl) (by kernel_rfl) (by kernel_rfl) (by rfl) (fun _ _ _ h => h) hHeld ?_
          (try simp only [putA, putB, putC, putD])
          refine wpAnyH_skipD 40 46 (by kernel_rfl) (by kernel_rfl) (by kernel_rfl) (by kernel_rfl) (by rfl) (fun _ _ _ h => h) hHeld ?_
          (try simp only [putA, putB, putC, putD])
          refine tkD 41 47 (v := ?_) ?_ hHeld ?_
          rotate_left 1
          (intro W hSw; (try dsimp only at hSw); go_simp; try with_reducible rfl)
          (try simp only [putA, putB, putC, putD])
          refine tkD 42 2 (v := ?_) ?_ hHeld ?_
          rotate_left 1
          (intro W hSw; (try dsimp only at hSw); go_simp; try with_reducible rfl)
          (try simp only [putA, putB, putC, putD])
          refine wpAnyH_done (by kernel_rfl) ?_ _
          clear hHeld
          go_wp2
          go_ret
          exact ⟨retB (by simp only [rCBodyB, H0, H1, H2, H3, Bool.true_and, Bool.false_and]), BL.out.drew⟩
        case true =>
          refine tkD 25 31 (v := ?_) ?_ hHeld ?_
          rotate_left 1
          (intro W hSw; (try dsimp only at hSw); go_simp; try with_reducible rfl)
          (try simp only [putA, putB, putC, putD])
          refine tkD 26 32 (v := ?_) ?_ hHeld ?_
          rotate_left 1
          (intro W hSw; (try dsimp only at hSw); go_simp; try with_reducible rfl)
          (try simp only [putA, putB, putC, putD])
          refine tkD 27 33 (v := ?_) ?_ hHeld ?_
          rotate_left 1
          (intro W hSw; (try dsimp only at hSw); go_simp; try with_reducible rfl)
          (try simp only [putA, putB, putC, putD])
          refine tkD 28 34 (v := ?_) ?_ hHeld ?_
          rotate_left 1
          (intro W hSw; (try dsimp only at hSw); go_simp; try with_reducible rfl)
          (try simp only [putA, putB, putC, putD])
          refine tkC 29 35 (fun W _ => rCWhole_any (4) (17179869184) (by decide +kernel) W) hHeld ?_
          (try simp only [putA, putB, putC, putD])
          refine tkC 30 36 (fun W _ => rCIn_any (c.f 69) (2147483648) (17179869184) W) hHeld ?_
          (try simp only [putA, putB, putC, putD])
          cases H4 : inC (2147483648) (17179869184) (c.f 69)
          case false =>
            refine tkD 31 37 (v := ?_) ?_ hHeld ?_
            rotate_left 1
            (intro W hSw; (try dsimp only at hSw); go_simp; try with_reducible rfl)
            (try simp only [putA, putB, putC, putD])
            refine tkD 32 38 (v := ?_) ?_ hHeld ?_
            rotate_left 1
            (intro W hSw; (try dsimp only at hSw); go_simp; try with_reducible rfl)
            (try simp only [putA, putB, putC, putD])
            refine wpAnyH_skipD 33 39 (by kernel_rfl) (by kernel_rfl) (by kernel_rfl) (by kernel_rfl) (by rfl) (fun _ _ _ h => h) hHeld ?_
            (try simp only [putA, putB, putC, putD])
            refine wpAnyH_skipD 34 40 (by kernel_rfl) (by kernel_rfl) (by kernel_rfl) (by kernel_rfl) (by rfl) (fun _ _ _ h => h) hHeld ?_
            (try simp only [putA, putB, putC, putD])
            refine wpAnyH_skipD 35 41 (by kernel_rfl) (by kernel_rfl) (by kernel_rfl) (by kernel_rfl) (by rfl) (fun _ _ _ h => h) hHeld ?_
            (try simp only [putA, putB, putC, putD])
            refine tkD 36 42 (v := ?_) ?_ hHeld ?_
            rotate_left 1
            (intro W hSw; (try dsimp only at hSw); go_simp; try with_reducible rfl)
            (try simp only [putA, putB, putC, putD])
            refine tkD 37 43 (v := ?_) ?_ hHeld ?_
            rotate_left 1
            (intro W hSw; (try dsimp only at hSw); go_simp; try with_reducible rfl)
            (try simp only [putA, putB, putC, putD])
            refine wpAnyH_skipD 38 44 (by kernel_rfl) (by kernel_rfl) (by kernel_rfl) (by kernel_rfl) (by rfl) (fun _ _ _ h => h) hHeld ?_
            (try simp only [putA, putB, putC, putD])
            refine wpAnyH_skipD 39 45 (by kernel_rfl) (by kernel_rfl) (by kernel_rfl) (by kernel_rfl) (by rfl) (fun _ _ _ h => h) hHeld ?_
            (try simp only [putA, putB, putC, putD])
            refine wpAnyH_skipD 40 46 (by kernel_rfl) (by kernel_rfl) (by kernel_rfl) (by kernel_rfl) (by rfl) (fun _ _ _ h => h) hHeld ?_
            (try simp only [putA, putB, putC, putD])
            refine tkD 41 47 (v := ?_) ?_ hHeld ?_
            rotate_left 1
            (intro W hSw; (try dsimp only at hSw); go_simp; try with_reducible rfl)
            (try simp only [putA, putB, putC, putD])
            refine tkD 42 2 (v := ?_) ?_ hHeld ?_
            rotate_left 1
            (intro W hSw; (try dsimp only at hSw); go_simp; try with_reducible rfl)
            (try simp only [putA, putB, putC, putD])
            refine wpAnyH_done (by kernel_rfl) ?_ _
            clear hHeld
            go_wp2
            go_ret
            exact ⟨retB (by simp only [rCBodyB, H0, H1, H2, H3, H4, Bool.true_and, Bool.false_and]), BL.out.drew⟩
          case true =>
            refine tkD 31 37 (v := ?_) ?_ hHeld ?_
            rotate_left 1
            (intro W hSw; (try dsimp only at hSw); go_simp; try with_reducible rfl)
            (try simp only [putA, putB, putC, putD])
            refine tkD 32 38 (v := ?_) ?_ hHeld ?_
            rotate_left 1
            (intro W hSw; (try dsimp only at hSw); go_simp; try with_reducible rfl)
            (try simp only [putA, putB, putC, putD])
            refine tkD 33 39 (v := ?_) ?_ hHeld ?_
            rotate_left 1
            (intro W hSw; (try dsimp only at hSw); go_simp; try with_reducible rfl)
            (try simp only [putA, putB, putC, putD])
            refine tkD 34 40 (v := ?_) ?_ hHeld ?_
            rotate_left 1
            (intro W hSw; (try dsimp only at hSw); go_simp; try with_reducible rfl)
            (try simp only [putA, putB, putC, putD])
            refine tkC 35 41 (fun W _ => rCIn_any (c.f 70) (0) (4294967296) W) hHeld ?_
            (try simp only [putA, putB, putC, putD])
            cases H5 : inC (0) (4294967296) (c.f 70)
            case false =>
              refine tkD 36 42 (v := ?_) ?_ hHeld ?_
              rotate_left 1
              (intro W hSw; (try dsimp only at hSw); go_simp; try with_reducible rfl)
              (try simp only [putA, putB, putC, putD])
              refine tkD 37 43 (v := ?_) ?_ hHeld ?_
              rotate_left 1
              (intro W hSw; (try dsimp only at hSw); go_simp; try with_reducible rfl)
              (try simp only [putA, putB, putC, putD])
              refine wpAnyH_skipD 38 44 (by kernel_rfl) (by kernel_rfl) (by kernel_rfl) (by kernel_rfl) (by rfl) (fun _ _ _ h => h) hHeld ?_
              (try simp only [putA, putB, putC, putD])
              refine wpAnyH_skipD 39 45 (by kernel_rfl) (by kernel_rfl) (by kernel_rfl) (by kernel_rfl) (by rfl) (fun _ _ _ h => h) hHeld ?_
              (try simp only [putA, putB, putC, putD])
              refine wpAnyH_skipD 40 46 (by kernel_rfl) (by kernel_rfl) (by kernel_rfl) (by kernel_rfl) (by rfl) (fun _ _ _ h => h) hHeld ?_
              (try simp only [putA, putB, putC, putD])
              refine tkD 41 47 (v := ?_) ?_ hHeld ?_
              rotate_left 1
              (intro W hSw; (try dsimp only at hSw); go_simp; try with_reducible rfl)
              (try simp only [putA, putB, putC, putD])
              refine tkD 42 2 (v := ?_) ?_ hHeld ?_
              rotate_left 1
              (intro W hSw; (try dsimp only at hSw); go_simp; try with_reducible rfl)
              (try simp only [putA, putB, putC, putD])
              refine wpAnyH_done (by kernel_rfl) ?_ _
              clear hHeld
              go_wp2
              go_ret
              exact ⟨retB (by simp only [rCBodyB, H0, H1, H2, H3, H4, H5, Bool.true_and, Bool.false_and]), BL.out.drew⟩
            case true =>
              refine tkD 36 42 (v := ?_) ?_ hHeld ?_
              rotate_left 1
              (intro W hSw; (try dsimp only at hSw); go_simp; try with_reducible rfl)
              (try simp only [putA, putB, putC, putD])
              refine tkD 37 43 (v := ?_) ?_ hHeld ?_
              rotate_left 1
              (intro W hSw; (try dsimp only at hSw); go_simp; try with_reducible rfl)
              (try simp only [putA, putB, putC, putD])
              refine tkD 38 44 (v := ?_) ?_ hHeld ?_
              rotate_left 1
              (intro W hSw; (try dsimp only at hSw); go_simp; try with_reducible rfl)
              (try simp only [putA, putB, putC, putD])
              refine tkD 39 45 (v := ?_) ?_ hHeld ?_
              rotate_left 1
              (intro W hSw; (try dsimp only at hSw); go_simp; try with_reducible rfl)
              (try simp only [putA, putB, putC, putD])
              refine tkC 40 46 (fun W _ => rCIn_any (c.f 71) (0) (4294967296) W) hHeld ?_
              (try simp only [putA, putB, putC, putD])
              cases H6 : inC (0) (4294967296) (c.f 71)
              case false =>
                refine tkD 41 47 (v := ?_) ?_ hHeld ?_
                rotate_left 1
                (intro W hSw; (try dsimp only at hSw); go_simp; try with_reducible rfl)
                (try simp only [putA, putB, putC, putD])
                refine tkD 42 2 (v := ?_) ?_ hHeld ?_
                rotate_left 1
                (intro W hSw; (try dsimp only at hSw); go_simp; try with_reducible rfl)
                (try simp only [putA, putB, putC, putD])
                refine wpAnyH_done (by kernel_rfl) ?_ _
                clear hHeld
                go_wp2
                go_ret
                exact ⟨retB (by simp only [rCBodyB, H0, H1, H2, H3, H4, H5, H6, Bool.true_and, Bool.false_and]), BL.out.drew⟩
              case true =>
                refine tkD 41 47 (v := ?_) ?_ hHeld ?_
                rotate_left 1
                (intro W hSw; (try dsimp only at hSw); go_simp; try with_reducible rfl)
                (try simp only [putA, putB, putC, putD])
                refine tkD 42 2 (v := ?_) ?_ hHeld ?_
                rotate_left 1
                (intro W hSw; (try dsimp only at hSw); go_simp; try with_reducible rfl)
                (try simp only [putA, putB, putC, putD])
                refine wpAnyH_done (by kernel_rfl) ?_ _
                clear hHeld
                go_wp2
                go_ret
                exact ⟨retB (by simp only [rCBodyB, H0, H1, H2, H3, H4, H5, H6, Bool.true_and, Bool.false_and]), BL.out.drew⟩
end Go.Proofs.Ytbpmbdnhfkfkhaa
