/- The document's car: rCEase. -/
import Derived.Test.YtbpmbdnhfkfkhaaZ2
namespace Go.Proofs.Ytbpmbdnhfkfkhaa
open Go.RowKit
set_option linter.unusedVariables false
set_option linter.unusedSimpArgs false

def rCEaseB (c : Cr) : Bool := inC (0) (17179869184) (c.f 72) && (inC (0) (17179869184) (c.f 73) && (inC (0) (8796093022208) (c.f 74) && (inC (0) (8796093022208) (c.f 75))))
def rCEaseN (c : Cr) : Int := if rCEaseB c = true then if c.f 74 ≤ c.f 75 then 41 else 0 else 40
set_option maxRecDepth 100000 in
set_option maxHeartbeats 8000000 in
theorem rCEase_any (c : Cr) (w : World) : Calls Try.prog 34 #[.agg (carL c).toArray] w fun e w' => e = .returned (.int .i64 (rCEaseN c)) ∧ Below w.heap.size w w' := by
  have B0 := BW.new w _ (carL c) 37 rfl
  have B1 := Lib.hid B0.drew
  clear B0
  go_enter Try.func34, Try.ntmps34
  go_wp2_with fail
  refine wp_region_held_drew (S := fun W => W.cell? ⟨w.heap.size, 72, none⟩ = some (.int .i64 (c.f 72)) ∧ W.cell? ⟨w.heap.size, 73, none⟩ = some (.int .i64 (c.f 73)) ∧ W.cell? ⟨w.heap.size, 74, none⟩ = some (.int .i64 (c.f 74)) ∧ W.cell? ⟨w.heap.size, 75, none⟩ = some (.int .i64 (c.f 75))) (by kernel_rfl) ⟨B1.out.c 72 _ rfl, B1.out.c 73 _ rfl, B1.out.c 74 _ rfl, B1.out.c 75 _ rfl⟩ (fun hHeld => ?_)
  refine tkD 0 3 (v := ?_) ?_ hHeld ?_
  rotate_left 1
  (intro W hSw; (try dsimp only at hSw); go_simp; try with_reducible rfl)
  (try simp only [putA, putB, putC, putD])
  refine tkD 1 4 (v := ?_) ?_ hHeld ?_
  rotate_left 1
  (intro W hSw; (try dsimp only at hSw); go_simp; try with_reducible rfl)
  (try simp only [putA, putB, putC, putD])
  refine tkC 2 5 (fun W _ => rCWhole_any (4) (17179869184) (by decide +kernel) W) hHeld ?_
  (try simp only [putA, putB, putC, putD])
  refine tkC 3 6 (fun W _ => rCIn_any (c.f 72) (0) (17179869184) W) hHeld ?_
  (try simp only [putA, putB, putC, putD])
  cases H0 : inC (0) (17179869184) (c.f 72)
  case false =>
    refine tkD 4 7 (v := ?_) ?_ hHeld ?_
    rotate_left 1
    (intro W hSw; (try dsimp only at hSw); go_simp; try with_reducible rfl)
    (try simp only [putA, putB, putC, putD])
    refine tkD 5 8 (v := ?_) ?_ hHeld ?_
    rotate_left 1
    (intro W hSw; (try dsimp only at hSw); go_simp; try with_reducible rfl)
    (try simp only [putA, putB, putC, putD])
    refine wpAnyH_skipD 6 9 (by kernel_rfl) (by kernel_rfl) (by kernel_rfl) (by kernel_rfl) (by rfl) (fun _ _ _ h => h) hHeld ?_
    (try simp only [putA, putB, putC, putD])
    refine wpAnyH_skipD 7 10 (by kernel_rfl) (by kernel_rfl) (by kernel_rfl) (by kernel_rfl) (by rfl) (fun _ _ _ h => h) hHeld ?_
    (try simp only [putA, putB, putC, putD])
    refine wpAnyH_skipD 8 11 (by kernel_rfl) (by kernel_rfl) (by kernel_rfl) (by kernel_rfl) (by rfl) (fun _ _ _ h => h) hHeld ?_
    (try simp only [putA, putB, putC, putD])
    refine wpAnyH_skipD 9 12 (by kernel_rfl) (by kernel_rfl) (by kernel_rfl) (by kernel_rfl) (by rfl) (fun _ _ _ h => h) hHeld ?_
    (try simp only [putA, putB, putC, putD])
    refine wpAnyH_skipD 10 13 (by kernel_rfl) (by kernel_rfl) (by kernel_rfl) (by kernel_rfl) (by rfl) (fun _ _ _ h => h) hHeld ?_
    (try simp only [putA, putB, putC, putD])
    refine tkD 11 14 (v := ?_) ?_ hHeld ?_
    rotate_left 1
    (intro W hSw; (try dsimp only at hSw); go_simp; try with_reducible rfl)
    (try simp only [putA, putB, putC, putD])
    refine tkD 12 15 (v := ?_) ?_ hHeld ?_
    rotate_left 1
    (intro W hSw; (try dsimp only at hSw); go_simp; try with_reducible rfl)
    (try simp only [putA, putB, putC, putD])
    refine wpAnyH_skipD 13 16 (by kernel_rfl) (by kernel_rfl) (by kernel_rfl) (by kernel_rfl) (by rfl) (fun _ _ _ h => h) hHeld ?_
    (try simp only [putA, putB, putC, putD])
    refine wpAnyH_skipD 14 17 (by kernel_rfl) (by kernel_rfl) (by kernel_rfl) (by kernel_rfl) (by rfl) (fun _ _ _ h => h) hHeld ?_
    (try simp only [putA, putB, putC, putD])
    refine wpAnyH_skipD 15 18 (by kernel_rfl) (by kernel_rfl) (by kernel_rfl) (by kernel_rfl) (by rfl) (fun _ _ _ h => h) hHeld ?_
    (try simp only [putA, putB, putC, putD])
    refine wpAnyH_skipD 16 19 (by kernel_rfl) (by kernel_rfl) (by kernel_rfl) (by kernel_rfl) (by rfl) (fun _ _ _ h => h) hHeld ?_
    (try simp only [putA, putB, putC, putD])
    refine wpAnyH_skipD 17 20 (by kernel_rfl) (by kernel_rfl) (by kernel_rfl) (by kernel_rfl) (by rfl) (fun _ _ _ h => h) hHeld ?_
    (try simp only [putA, putB, putC, putD])
    refine tkD 18 21 (v := ?_) ?_ hHeld ?_
    rotate_left 1
    (intro W hSw; (try dsimp only at hSw); go_simp; try with_reducible rfl)
    (try simp only [putA, putB, putC, putD])
    refine tkD 19 22 (v := ?_) ?_ hHeld ?_
    rotate_left 1
    (intro W hSw; (try dsimp only at hSw); go_simp; try with_reducible rfl)
    (try simp only [putA, putB, putC, putD])
    refine wpAnyH_skipD 20 23 (by kernel_rfl) (by kernel_rfl) (by kernel_rfl) (by kernel_rfl) (by rfl) (fun _ _ _ h => h) hHeld ?_
    (try simp only [putA, putB, putC, putD])
    refine wpAnyH_skipD 21 24 (by kernel_rfl) (by kernel_rfl) (by kernel_rfl) (by kernel_rfl) (by rfl) (fun _ _ _ h => h) hHeld ?_
    (try simp only [putA, putB, putC, putD])
    refine wpAnyH_skipD 22 25 (by kernel_rfl) (by kernel_rfl) (by kernel_rfl) (by kernel_rfl) (by rfl) (fun _ _ _ h => h) hHeld ?_
    (try simp only [putA, putB, putC, putD])
    refine wpAnyH_skipD 23 26 (by kernel_rfl) (by kernel_rfl) (by kernel_rfl) (by kernel_rfl) (by rfl) (fun _ _ _ h => h) hHeld ?_
    (try simp only [putA, putB, putC, putD])
    refine wpAnyH_skipD 24 27 (by kernel_rfl) (by kernel_rfl) (by kernel_rfl) (by kernel_rfl) (by rfl) (fun _ _ _ h => h) hHeld ?_
    (try simp only [putA, putB, putC, putD])
    refine tkD 25 28 (v := ?_) ?_ hHeld ?_
    rotate_left 1
    (intro W hSw; (try dsimp only at hSw); go_simp; try with_reducible rfl)
    (try simp only [putA, putB, putC, putD])
    refine wpAnyH_done (by kernel_rfl) ?_ _
    clear hHeld B1
    go_wp2
    go_ret
    exact ⟨retI (show ((40 : Nat) : Int) = rCEaseN c by simp only [rCEaseN, rCEaseB, H0, Bool.true_and, Bool.false_and, Bool.false_eq_true, if_false]; rfl), by repeat (first | exact Below.refl _ _ | assumption | refine Below.setCell ?_ (by first | omega | (simp; done) | (simp; omega)) _ | refine Below.alloc ?_ (by first | omega | (simp; done) | (simp; omega)) _ | refine below_drewN ?_ _ | refine Below.drew ?_ | refine Below.trans ?_ (Below.mono (by assumption) (by first | omega | (simp; done) | (simp; omega))))⟩
  case true =>
    refine tkD 4 7 (v := ?_) ?_ hHeld ?_
    rotate_left 1
    (intro W hSw; (try dsimp only at hSw); go_simp; try with_reducible rfl)
    (try simp only [putA, putB, putC, putD])
    refine tkD 5 8 (v := ?_) ?_ hHeld ?_
    rotate_left 1
    (intro W hSw; (try dsimp only at hSw); go_simp; try with_reducible rfl)
    (try simp only [putA, putB, putC, putD])
    refine tkD 6 9 (v := ?_) ?_ hHeld ?_
    rotate_left 1
    (intro W hSw; (try dsimp only at hSw); go_simp; try with_reducible rfl)
    (try simp only [putA, putB, putC, putD])
    refine tkD 7 10 (v := ?_) ?_ hHeld ?_
    rotate_left 1
    (intro W hSw; (try dsimp only at hSw); go_simp; try with_reducible rfl)
    (try simp only [putA, putB, putC, putD])
    refine tkC 8 11 (fun W _ => rCWhole_any (4) (17179869184) (by decide +kernel) W) hHeld ?_
    (try simp only [putA, putB, putC, putD])
    refine tkC 9 12 (fun W _ => rCIn_any (c.f 73) (0) (17179869184) W) hHeld ?_
    (try simp only [putA, putB, putC, putD])
    cases H1 : inC (0) (17179869184) (c.f 73)
    case false =>
      refine tkD 10 13 (v := ?_) ?_ hHeld ?_
      rotate_left 1
      (intro W hSw; (try dsimp only at hSw); go_simp; try with_reducible rfl)
      (try simp only [putA, putB, putC, putD])
      refine tkD 11 14 (v := ?_) ?_ hHeld ?_
      rotate_left 1
      (intro W hSw; (try dsimp only at hSw); go_simp; try with_reducible rfl)
      (try simp only [putA, putB, putC, putD])
      refine tkD 12 15 (v := ?_) ?_ hHeld ?_
      rotate_left 1
      (intro W hSw; (try dsimp only at hSw); go_simp; try with_reducible rfl)
      (try simp only [putA, putB, putC, putD])
      refine wpAnyH_skipD 13 16 (by kernel_rfl) (by kernel_rfl) (by kernel_rfl) (by kernel_rfl) (by rfl) (fun _ _ _ h => h) hHeld ?_
      (try simp only [putA, putB, putC, putD])
      refine wpAnyH_skipD 14 17 (by kernel_rfl) (by kernel_rfl) (by kernel_rfl) (by kernel_rfl) (by rfl) (fun _ _ _ h => h) hHeld ?_
      (try simp only [putA, putB, putC, putD])
      refine wpAnyH_skipD 15 18 (by kernel_rfl) (by kernel_rfl) (by kernel_rfl) (by kernel_rfl) (by rfl) (fun _ _ _ h => h) hHeld ?_
      (try simp only [putA, putB, putC, putD])
      refine wpAnyH_skipD 16 19 (by kernel_rfl) (by kernel_rfl) (by kernel_rfl) (by kernel_rfl) (by rfl) (fun _ _ _ h => h) hHeld ?_
      (try simp only [putA, putB, putC, putD])
      refine wpAnyH_skipD 17 20 (by kernel_rfl) (by kernel_rfl) (by kernel_rfl) (by kernel_rfl) (by rfl) (fun _ _ _ h => h) hHeld ?_
      (try simp only [putA, putB, putC, putD])
      refine tkD 18 21 (v := ?_) ?_ hHeld ?_
      rotate_left 1
      (intro W hSw; (try dsimp only at hSw); go_simp; try with_reducible rfl)
      (try simp only [putA, putB, putC, putD])
      refine tkD 19 22 (v := ?_) ?_ hHeld ?_
      rotate_left 1
      (intro W hSw; (try dsimp only at hSw); go_simp; try with_reducible rfl)
      (try simp only [putA, putB, putC, putD])
      refine wpAnyH_skipD 20 23 (by kernel_rfl) (by kernel_rfl) (by kernel_rfl) (by kernel_rfl) (by rfl) (fun _ _ _ h => h) hHeld ?_
      (try simp only [putA, putB, putC, putD])
      refine wpAnyH_skipD 21 24 (by kernel_rfl) (by kernel_rfl) (by kernel_rfl) (by kernel_rfl) (by rfl) (fun _ _ _ h => h) hHeld ?_
      (try simp only [putA, putB, putC, putD])
      refine wpAnyH_skipD 22 25 (by kernel_rfl) (by kernel_rfl) (by kernel_rfl) (by kernel_rfl) (by rfl) (fun _ _ _ h => h) hHeld ?_
      (try simp only [putA, putB, putC, putD])
      refine wpAnyH_skipD 23 26 (by kernel_rfl) (by kernel_rfl) (by kernel_rfl) (by kernel_rfl) (by rfl) (fun _ _ _ h => h) hHeld ?_
      (try simp only [putA, putB, putC, putD])
      refine wpAnyH_skipD 24 27 (by kernel_rfl) (by kernel_rfl) (by kernel_rfl) (by kernel_rfl) (by rfl) (fun _ _ _ h => h) hHeld ?_
      (try simp only [putA, putB, putC, putD])
      refine tkD 25 28 (v := ?_) ?_ hHeld ?_
      rotate_left 1
      (intro W hSw; (try dsimp only at hSw); go_simp; try with_reducible rfl)
      (try simp only [putA, putB, putC, putD])
      refine wpAnyH_done (by kernel_rfl) ?_ _
      clear hHeld B1
      go_wp2
      go_ret
      exact ⟨retI (show ((40 : Nat) : Int) = rCEaseN c by simp only [rCEaseN, rCEaseB, H0, H1, Bool.true_and, Bool.false_and, Bool.false_eq_true, if_false]; rfl), by repeat (first | exact Below.refl _ _ | assumption | refine Below.setCell ?_ (by first | omega | (simp; done) | (simp; omega)) _ | refine Below.alloc ?_ (by first | omega | (simp; done) | (simp; omega)) _ | refine below_drewN ?_ _ | refine Below.drew ?_ | refine Below.trans ?_ (Below.mono (by assumption) (by first | omega | (simp; done) | (simp; omega))))⟩
    case true =>
      refine tkD 10 13 (v := ?_) ?_ hHeld ?_
      rotate_left 1
      (intro W hSw; (try dsimp only at hSw); go_simp; try with_reducible rfl)
      (try simp only [putA, putB, putC, putD])
      refine tkD 11 14 (v := ?_) ?_ hHeld ?_
      rotate_left 1
      (intro W hSw; (try dsimp only at hSw); go_simp; try with_reducible rfl)
      (try simp only [putA, putB, putC, putD])
      refine tkD 12 15 (v := ?_) ?_ hHeld ?_
      rotate_left 1
      (intro W hSw; (try dsimp only at hSw); go_simp; try with_reducible rfl)
      (try simp only [putA, putB, putC, putD])
      refine tkD 13 16 (v := ?_) ?_ hHeld ?_
      rotate_left 1
      (intro W hSw; (try dsimp only at hSw); go_simp; try with_reducible rfl)
      (try simp only [putA, putB, putC, putD])
      refine tkD 14 17 (v := ?_) ?_ hHeld ?_
      rotate_left 1
      (intro W hSw; (try dsimp only at hSw); go_simp; try with_reducible rfl)
      (try simp only [putA, putB, putC, putD])
      refine tkC 15 18 (fun W _ => rCWhole_any (2048) (8796093022208) (by decide +kernel) W) hHeld ?_
      (try simp only [putA, putB, putC, putD])
      refine tkC 16 19 (fun W _ => rCIn_any (c.f 74) (0) (8796093022208) W) hHeld ?_
      (try simp only [putA, putB, putC, putD])
      cases H2 : inC (0) (8796093022208) (c.f 74)
      case false =>
        refine tkD 17 20 (v := ?_) ?_ hHeld ?_
        rotate_left 1
        (intro W hSw; (try dsimp only at hSw); go_simp; try with_reducible rfl)
        (try simp only [putA, putB, putC, putD])
        refine tkD 18 21 (v := ?_) ?_ hHeld ?_
        rotate_left 1
        (intro W hSw; (try dsimp only at hSw); go_simp; try with_reducible rfl)
        (try simp only [putA, putB, putC, putD])
        refine tkD 19 22 (v := ?_) ?_ hHeld ?_
        rotate_left 1
        (intro W hSw; (try dsimp only at hSw); go_simp; try with_reducible rfl)
        (try simp only [putA, putB, putC, putD])
        refine wpAnyH_skipD 20 23 (by kernel_rfl) (by kernel_rfl) (by kernel_rfl) (by kernel_rfl) (by rfl) (fun _ _ _ h => h) hHeld ?_
        (try simp only [putA, putB, putC, putD])
        refine wpAnyH_skipD 21 24 (by kernel_rfl) (by kernel_rfl) (by kernel_rfl) (by kernel_rfl) (by rfl) (fun _ _ _ h => h) hHeld ?_
        (try simp only [putA, putB, putC, putD])
        refine wpAnyH_skipD 22 25 (by kernel_rfl) (by kernel_rfl) (by kernel_rfl) (by kernel_rfl) (by rfl) (fun _ _ _ h => h) hHeld ?_
        (try simp only [putA, putB, putC, putD])
        refine wpAnyH_skipD 23 26 (by kernel_rfl) (by kernel_rfl) (by kernel_rfl) (by kernel_rfl) (by rfl) (fun _ _ _ h => h) hHeld ?_
        (try simp only [putA, putB, putC, putD])
        refine wpAnyH_skipD 24 27 (by kernel_rfl) (by kernel_rfl) (by kernel_rfl) (by kernel_rfl) (by rfl) (fun _ _ _ h => h) hHeld ?_
        (try simp only [putA, putB, putC, putD])
        refine tkD 25 28 (v := ?_) ?_ hHeld ?_
        rotate_left 1
        (intro W hSw; (try dsimp only at hSw); go_simp; try with_reducible rfl)
        (try simp only [putA, putB, putC, putD])
        refine wpAnyH_done (by kernel_rfl) ?_ _
        clear hHeld B1
        go_wp2
        go_ret
        exact ⟨retI (show ((40 : Nat) : Int) = rCEaseN c by simp only [rCEaseN, rCEaseB, H0, H1, H2, Bool.true_and, Bool.false_and, Bool.false_eq_true, if_false]; rfl), by repeat (first | exact Below.refl _ _ | assumption | refine Below.setCell ?_ (by first | omega | (simp; done) | (simp; omega)) _ | refine Below.alloc ?_ (by first | omega | (simp; done) | (simp; omega)) _ | refine below_drewN ?_ _ | refine Below.drew ?_ | refine Below.trans ?_ (Below.mono (by assumption) (by first | omega | (simp; done) | (simp; omega))))⟩
      case true =>
        refine tkD 17 20 (v := ?_) ?_ hHeld ?_
        rotate_left 1
        (intro W hSw; (try dsimp only at hSw); go_simp; try with_reducible rfl)
        (try simp only [putA, putB, putC, putD])
        refine tkD 18 21 (v := ?_) ?_ hHeld ?_
        rotate_left 1
        (intro W hSw; (try dsimp only at hSw); go_simp; try with_reducible rfl)
        (try simp only [putA, putB, putC, putD])
        refine tkD 19 22 (v := ?_) ?_ hHeld ?_
        rotate_left 1
        (intro W hSw; (try dsimp only at hSw); go_simp; try with_reducible rfl)
        (try simp only [putA, putB, putC, putD])
        refine tkD 20 23 (v := ?_) ?_ hHeld ?_
        rotate_left 1
        (intro W hSw; (try dsimp only at hSw); go_simp; try with_reducible rfl)
        (try simp only [putA, putB, putC, putD])
        refine tkD 21 24 (v := ?_) ?_ hHeld ?_
        rotate_left 1
        (intro W hSw; (try dsimp only at hSw); go_simp; try with_reducible rfl)
        (try simp only [putA, putB, putC, putD])
        refine tkC 22 25 (fun W _ => rCWhole_any (2048) (8796093022208) (by decide +kernel) W) hHeld ?_
        (try simp only [putA, putB, putC, putD])
        refine tkC 23 26 (fun W _ => rCIn_any (c.f 75) (0) (8796093022208) W) hHeld ?_
        (try simp only [putA, putB, putC, putD])
        cases H3 : inC (0) (8796093022208) (c.f 75)
        case false =>
          refine tkD 24 27 (v := ?_) ?_ hHeld ?_
          rotate_left 1
          (intro W hSw; (try dsimp only at hSw); go_simp; try with_reducible rfl)
          (try simp only [putA, putB, putC, putD])
          refine tkD 25 28 (v := ?_) ?_ hHeld ?_
          rotate_left 1
          (intro W hSw; (try dsimp only at hSw); go_simp; try with_reducible rfl)
          (try simp only [putA, putB, putC, putD])
          refine wpAnyH_done (by kernel_rfl) ?_ _
          clear hHeld B1
          go_wp2
          go_ret
          exact ⟨retI (show ((40 : Nat) : Int) = rCEaseN c by simp only [rCEaseN, rCEaseB, H0, H1, H2, H3, Bool.true_and, Bool.false_and, Bool.false_eq_true, if_false]; rfl), by repeat (first | exact Below.refl _ _ | assumption | refine Below.setCell ?_ (by first | omega | (simp; done) | (simp; omega)) _ | refine Below.alloc ?_ (by first | omega | (simp; done) | (simp; omega)) _ | refine below_drewN ?_ _ | refine Below.drew ?_ | refine Below.trans ?_ (Below.mono (by assumption) (by first | omega | (simp; done) | (simp; omega))))⟩
        case true =>
          refine tkD 24 27 (v := ?_) ?_ hHeld ?_
          rotate_left 1
          (intro W hSw; (try dsimp only at hSw); go_simp; try with_reducible rfl)
          (try simp only [putA, putB, putC, putD])
          refine tkD 25 28 (v := ?_) ?_ hHeld ?_
          rotate_left 1
          (intro W hSw; (try dsimp only at hSw); go_simp; try with_reducible rfl)
          (try simp only [putA, putB, putC, putD])
          refine wpAnyH_done (by kernel_rfl) ?_ _
          clear hHeld
          have ka := B1.out.c 74 _ rfl
          have kb := B1.out.c 75 _ rfl
          clear B1
          by_cases g : c.f 74 ≤ c.f 75
          · go_wp2
            go_ret
            exact ⟨retI (show ((41 : Nat) : Int) = rCEaseN c by simp only [rCEaseN, rCEaseB, H0, H1, H2, H3, Bool.and_true, if_true, if_pos g]; rfl), by repeat (first | exact Below.refl _ _ | assumption | refine Below.setCell ?_ (by first | omega | (simp; done) | (simp; omega)) _ | refine Below.alloc ?_ (by first | omega | (simp; done) | (simp; omega)) _ | refine below_drewN ?_ _ | refine Below.drew ?_ | refine Below.trans ?_ (Below.mono (by assumption) (by first | omega | (simp; done) | (simp; omega))))⟩
          · go_wp2
            go_ret
            exact ⟨retI (show ((0 : Nat) : Int) = rCEaseN c by simp only [rCEaseN, rCEaseB, H0, H1, H2, H3, Bool.and_true, if_true, if_neg (show ¬ (c.f 74 ≤ c.f 75) by omega)]; rfl), by repeat (first | exact Below.refl _ _ | assumption | refine Below.setCell ?_ (by first | omega | (simp; done) | (simp; omega)) _ | refine Below.alloc ?_ (by first | omega | (simp; done) | (simp; omega)) _ | refine below_drewN ?_ _ | refine Below.drew ?_ | refine Below.trans ?_ (Below.mono (by assumption) (by first | omega | (simp; done) | (simp; omega))))⟩
end Go.Proofs.Ytbpmbdnhfkfkhaa
