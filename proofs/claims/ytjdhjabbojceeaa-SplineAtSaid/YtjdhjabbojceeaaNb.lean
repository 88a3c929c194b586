/- Contracts of the document's plane: Near. -/
import Derived.Test.YtjdhjabbojceeaaKz
import Derived.Test.YtjdhjabbojceeaaNa
import Derived.Deep.LoopGhost
namespace Go.Proofs.Ytjdhjabbojceeaa
open Go.RowKit
set_option linter.unusedVariables false
set_option linter.unusedSimpArgs false

set_option maxHeartbeats 4000000 in
theorem rNear3_any (x0 y0 x1 y1 x2 y2 : Int) (n : Nat) (w : World) (B : BW w n [.int .i64 x0, .int .i64 y0, .int .i64 x1, .int .i64 y1, .int .i64 x2, .int .i64 y2]) :
    Calls Try.prog 26 #[.slice (some ⟨n, 0, none⟩) 3 3] w fun e w' => e = .returned (.bool (decide ((Rg x0 ∧ Rg y0) ∧ (Rg x1 ∧ Rg y1) ∧ (Rg x2 ∧ Rg y2)))) ∧ w' = w := by
  have c0 : w.cell? ⟨n, 0, none⟩ = some (.int .i64 x0) := B.c 0 _ rfl
  have c1 : w.cell? ⟨n, 1, none⟩ = some (.int .i64 y0) := B.c 1 _ rfl
  have c2 : w.cell? ⟨n, 2, none⟩ = some (.int .i64 x1) := B.c 2 _ rfl
  have c3 : w.cell? ⟨n, 3, none⟩ = some (.int .i64 y1) := B.c 3 _ rfl
  have c4 : w.cell? ⟨n, 4, none⟩ = some (.int .i64 x2) := B.c 4 _ rfl
  have c5 : w.cell? ⟨n, 5, none⟩ = some (.int .i64 y2) := B.c 5 _ rfl
  obtain ⟨N, hN⟩ : ∃ N, decide ((Rg x0 ∧ Rg y0) ∧ (Rg x1 ∧ Rg y1) ∧ (Rg x2 ∧ Rg y2)) = N := ⟨_, rfl⟩
  rw [hN]
  have HN := Lib.hid hN
  clear B hN
  go_enter Try.func26, Try.ntmps26
  go_wp2
  go_loopg [3] 3 (fun kx s3 wr => ∃ i : Nat, s3 = .int .i64 i ∧ i ≤ 3 ∧ 3 - i ≤ kx ∧ wr = w ∧ Hid ((0 < i → Rg x0 ∧ Rg y0) ∧ (1 < i → Rg x1 ∧ Rg y1) ∧ (2 < i → Rg x2 ∧ Rg y2)))
  case atStart => exact ⟨0, rfl, by omega, by omega, rfl, ⟨fun h => absurd h (by omega), fun h => absurd h (by omega), fun h => absurd h (by omega)⟩⟩
  case round =>
    obtain ⟨i, rfl, hi, hk, rfl, I⟩ := hrel
    obtain rfl | rfl | rfl | rfl : i = 0 ∨ i = 1 ∨ i = 2 ∨ i = 3 := by omega
    · try rw [show ((0 : Nat) : Int) = 0 from rfl]
      by_cases q1 : 281474976710656 < x0
      · have E := Lib.hid (show false = N by rw [← HN.out]; symm; rw [decide_eq_false_iff_not]; unfold Rg; omega)
        clear I
        go_wp2
        go_ret
        exact ⟨by rw [← E.out]; rfl, rfl⟩
      · by_cases q2 : x0 < -281474976710656
        · have E := Lib.hid (show false = N by rw [← HN.out]; symm; rw [decide_eq_false_iff_not]; unfold Rg; omega)
          clear I
          go_wp2
          go_ret
          exact ⟨by rw [← E.out]; rfl, rfl⟩
        · by_cases q3 : 281474976710656 < y0
          · have E := Lib.hid (show false = N by rw [← HN.out]; symm; rw [decide_eq_false_iff_not]; unfold Rg; omega)
            clear I
            go_wp2
            go_ret
            exact ⟨by rw [← E.out]; rfl, rfl⟩
          · by_cases q4 : y0 < -281474976710656
            · have E := Lib.hid (show false = N by rw [← HN.out]; symm; rw [decide_eq_false_iff_not]; unfold Rg; omega)
              clear I
              go_wp2
              go_ret
              exact ⟨by rw [← E.out]; rfl, rfl⟩
            · have J := Lib.hid (show Rg x0 ∧ Rg y0 by unfold Rg; omega)
              have HK := Lib.hid hk
              clear hi hk
              go_wp2
              go_roundg (3 - 0 - 1)
              case measure => have := HK.out; omega
              case rel => exact ⟨0 + 1, rfl, by omega, by omega, rfl, ⟨fun _ => J.out, fun h => absurd h (by omega), fun h => absurd h (by omega)⟩⟩
    · try rw [show ((1 : Nat) : Int) = 1 from rfl]
      by_cases q1 : 281474976710656 < x1
      · have E := Lib.hid (show false = N by rw [← HN.out]; symm; rw [decide_eq_false_iff_not]; unfold Rg; omega)
        clear I
        go_wp2
        go_ret
        exact ⟨by rw [← E.out]; rfl, rfl⟩
      · by_cases q2 : x1 < -281474976710656
        · have E := Lib.hid (show false = N by rw [← HN.out]; symm; rw [decide_eq_false_iff_not]; unfold Rg; omega)
          clear I
          go_wp2
          go_ret
          exact ⟨by rw [← E.out]; rfl, rfl⟩
        · by_cases q3 : 281474976710656 < y1
          · have E := Lib.hid (show false = N by rw [← HN.out]; symm; rw [decide_eq_false_iff_not]; unfold Rg; omega)
            clear I
            go_wp2
            go_ret
            exact ⟨by rw [← E.out]; rfl, rfl⟩
          · by_cases q4 : y1 < -281474976710656
            · have E := Lib.hid (show false = N by rw [← HN.out]; symm; rw [decide_eq_false_iff_not]; unfold Rg; omega)
              clear I
              go_wp2
              go_ret
              exact ⟨by rw [← E.out]; rfl, rfl⟩
            · have J := Lib.hid (show Rg x1 ∧ Rg y1 by unfold Rg; omega)
              have HK := Lib.hid hk
              clear hi hk
              go_wp2
              go_roundg (3 - 1 - 1)
              case measure => have := HK.out; omega
              case rel => exact ⟨1 + 1, rfl, by omega, by omega, rfl, ⟨fun h => I.out.1 (by omega), fun _ => J.out, fun h => absurd h (by omega)⟩⟩
    · try rw [show ((2 : Nat) : Int) = 2 from rfl]
      by_cases q1 : 281474976710656 < x2
      · have E := Lib.hid (show false = N by rw [← HN.out]; symm; rw [decide_eq_false_iff_not]; unfold Rg; omega)
        clear I
        go_wp2
        go_ret
        exact ⟨by rw [← E.out]; rfl, rfl⟩
      · by_cases q2 : x2 < -281474976710656
        · have E := Lib.hid (show false = N by rw [← HN.out]; symm; rw [decide_eq_false_iff_not]; unfold Rg; omega)
          clear I
          go_wp2
          go_ret
          exact ⟨by rw [← E.out]; rfl, rfl⟩
        · by_cases q3 : 281474976710656 < y2
          · have E := Lib.hid (show false = N by rw [← HN.out]; symm; rw [decide_eq_false_iff_not]; unfold Rg; omega)
            clear I
            go_wp2
            go_ret
            exact ⟨by rw [← E.out]; rfl, rfl⟩
          · by_cases q4 : y2 < -281474976710656
            · have E := Lib.hid (show false = N by rw [← HN.out]; symm; rw [decide_eq_false_iff_not]; unfold Rg; omega)
              clear I
              go_wp2
              go_ret
              exact ⟨by rw [← E.out]; rfl, rfl⟩
            · have J := Lib.hid (show Rg x2 ∧ Rg y2 by unfold Rg; omega)
              have HK := Lib.hid hk
              clear hi hk
              go_wp2
              go_roundg (3 - 2 - 1)
              case measure => have := HK.out; omega
              case rel => exact ⟨2 + 1, rfl, by omega, by omega, rfl, ⟨fun h => I.out.1 (by omega), fun h => I.out.2.1 (by omega), fun _ => J.out⟩⟩
    · try rw [show ((3 : Nat) : Int) = 3 from rfl]
      have E := Lib.hid (show true = N by rw [← HN.out]; symm; rw [decide_eq_true_iff]; exact ⟨I.out.1 (by omega), I.out.2.1 (by omega), I.out.2.2 (by omega)⟩)
      clear I
      go_wp2
      go_ret
      exact ⟨by rw [← E.out]; rfl, rfl⟩
set_option maxHeartbeats 4000000 in
theorem rNear4_any (x0 y0 x1 y1 x2 y2 x3 y3 : Int) (n : Nat) (w : World) (B : BW w n [.int .i64 x0, .int .i64 y0, .int .i64 x1, .int .i64 y1, .int .i64 x2, .int .i64 y2, .int .i64 x3, .int .i64 y3]) :
    Calls Try.prog 26 #[.slice (some ⟨n, 0, none⟩) 4 4] w fun e w' => e = .returned (.bool (decide ((Rg x0 ∧ Rg y0) ∧ (Rg x1 ∧ Rg y1) ∧ (Rg x2 ∧ Rg y2) ∧ (Rg x3 ∧ Rg y3)))) ∧ w' = w := by
  have c0 : w.cell? ⟨n, 0, none⟩ = some (.int .i64 x0) := B.c 0 _ rfl
  have c1 : w.cell? ⟨n, 1, none⟩ = some (.int .i64 y0) := B.c 1 _ rfl
  have c2 : w.cell? ⟨n, 2, none⟩ = some (.int .i64 x1) := B.c 2 _ rfl
  have c3 : w.cell? ⟨n, 3, none⟩ = some (.int .i64 y1) := B.c 3 _ rfl
  have c4 : w.cell? ⟨n, 4, none⟩ = some (.int .i64 x2) := B.c 4 _ rfl
  have c5 : w.cell? ⟨n, 5, none⟩ = some (.int .i64 y2) := B.c 5 _ rfl
  have c6 : w.cell? ⟨n, 6, none⟩ = some (.int .i64 x3) := B.c 6 _ rfl
  have c7 : w.cell? ⟨n, 7, none⟩ = some (.int .i64 y3) := B.c 7 _ rfl
  obtain ⟨N, hN⟩ : ∃ N, decide ((Rg x0 ∧ Rg y0) ∧ (Rg x1 ∧ Rg y1) ∧ (Rg x2 ∧ Rg y2) ∧ (Rg x3 ∧ Rg y3)) = N := ⟨_, rfl⟩
  rw [hN]
  have HN := Lib.hid hN
  clear B hN
  go_enter Try.func26, Try.ntmps26
  go_wp2
  go_loopg [3] 4 (fun kx s3 wr => ∃ i : Nat, s3 = .int .i64 i ∧ i ≤ 4 ∧ 4 - i ≤ kx ∧ wr = w ∧ Hid ((0 < i → Rg x0 ∧ Rg y0) ∧ (1 < i → Rg x1 ∧ Rg y1) ∧ (2 < i → Rg x2 ∧ Rg y2) ∧ (3 < i → Rg x3 ∧ Rg y3)))
  case atStart => exact ⟨0, rfl, by omega, by omega, rfl, ⟨fun h => absurd h (by omega), fun h => absurd h (by omega), fun h => absurd h (by omega), fun h => absurd h (by omega)⟩⟩
  case round =>
    obtain ⟨i, rfl, hi, hk, rfl, I⟩ := hrel
    obtain rfl | rfl | rfl | rfl | rfl : i = 0 ∨ i = 1 ∨ i = 2 ∨ i = 3 ∨ i = 4 := by omega
    · try rw [show ((0 : Nat) : Int) = 0 from rfl]
      by_cases q1 : 281474976710656 < x0
      · have E := Lib.hid (show false = N by rw [← HN.out]; symm; rw [decide_eq_false_iff_not]; unfold Rg; omega)
        clear I
        go_wp2
        go_ret
        exact ⟨by rw [← E.out]; rfl, rfl⟩
      · by_cases q2 : x0 < -281474976710656
        · have E := Lib.hid (show false = N by rw [← HN.out]; symm; rw [decide_eq_false_iff_not]; unfold Rg; omega)
          clear I
          go_wp2
          go_ret
          exact ⟨by rw [← E.out]; rfl, rfl⟩
        · by_cases q3 : 281474976710656 < y0
          · have E := Lib.hid (show false = N by rw [← HN.out]; symm; rw [decide_eq_false_iff_not]; unfold Rg; omega)
            clear I
            go_wp2
            go_ret
            exact ⟨by rw [← E.out]; rfl, rfl⟩
          · by_cases q4 : y0 < -281474976710656
            · have E := Lib.hid (show false = N by rw [← HN.out]; symm; rw [decide_eq_false_iff_not]; unfold Rg; omega)
              clear I
              go_wp2
              go_ret
              exact ⟨by rw [← E.out]; rfl, rfl⟩
            · have J := Lib.hid (show Rg x0 ∧ Rg y0 by unfold Rg; omega)
              have HK := Lib.hid hk
              clear hi hk
              go_wp2
              go_roundg (4 - 0 - 1)
              case measure => have := HK.out; omega
              case rel => exact ⟨0 + 1, rfl, by omega, by omega, rfl, ⟨fun _ => J.out, fun h => absurd h (by omega), fun h => absurd h (by omega), fun h => absurd h (by omega)⟩⟩
    · try rw [show ((1 : Nat) : Int) = 1 from rfl]
      by_cases q1 : 281474976710656 < x1
      · have E := Lib.hid (show false = N by rw [← HN.out]; symm; rw [decide_eq_false_iff_not]; unfold Rg; omega)
        clear I
        go_wp2
        go_ret
        exact ⟨by rw [← E.out]; rfl, rfl⟩
      · by_cases q2 : x1 < -281474976710656
        · have E := Lib.hid (show false = N by rw [← HN.out]; symm; rw [decide_eq_false_iff_not]; unfold Rg; omega)
          clear I
          go_wp2
          go_ret
          exact ⟨by rw [← E.out]; rfl, rfl⟩
        · by_cases q3 : 281474976710656 < y1
          · have E := Lib.hid (show false = N by rw [← HN.out]; symm; rw [decide_eq_false_iff_not]; unfold Rg; omega)
            clear I
            go_wp2
            go_ret
            exact ⟨by rw [← E.out]; rfl, rfl⟩
          · by_cases q4 : y1 < -281474976710656
            · have E := Lib.hid (show false = N by rw [← HN.out]; symm; rw [decide_eq_false_iff_not]; unfold Rg; omega)
              clear I
              go_wp2
              go_ret
              exact ⟨by rw [← E.out]; rfl, rfl⟩
            · have J := Lib.hid (show Rg x1 ∧ Rg y1 by unfold Rg; omega)
              have HK := Lib.hid hk
              clear hi hk
              go_wp2
              go_roundg (4 - 1 - 1)
              case measure => have := HK.out; omega
              case rel => exact ⟨1 + 1, rfl, by omega, by omega, rfl, ⟨fun h => I.out.1 (by omega), fun _ => J.out, fun h => absurd h (by omega), fun h => absurd h (by omega)⟩⟩
    · try rw [show ((2 : Nat) : Int) = 2 from rfl]
      by_cases q1 : 281474976710656 < x2
      · have E := Lib.hid (show false = N by rw [← HN.out]; symm; rw [decide_eq_false_iff_not]; unfold Rg; omega)
        clear I
        go_wp2
        go_ret
        exact ⟨by rw [← E.out]; rfl, rfl⟩
      · by_cases q2 : x2 < -281474976710656
        · have E := Lib.hid (show false = N by rw [← HN.out]; symm; rw [decide_eq_false_iff_not]; unfold Rg; omega)
          clear I
          go_wp2
          go_ret
          exact ⟨by rw [← E.out]; rfl, rfl⟩
        · by_cases q3 : 281474976710656 < y2
          · have E := Lib.hid (show false = N by rw [← HN.out]; symm; rw [decide_eq_false_iff_not]; unfold Rg; omega)
            clear I
            go_wp2
            go_ret
            exact ⟨by rw [← E.out]; rfl, rfl⟩
          · by_cases q4 : y2 < -281474976710656
            · have E := Lib.hid (show false = N by rw [← HN.out]; symm; rw [decide_eq_false_iff_not]; unfold Rg; omega)
              clear I
              go_wp2
              go_ret
              exact ⟨by rw [← E.out]; rfl, rfl⟩
            · have J := Lib.hid (show Rg x2 ∧ Rg y2 by unfold Rg; omega)
              have HK := Lib.hid hk
              clear hi hk
              go_wp2
              go_roundg (4 - 2 - 1)
              case measure => have := HK.out; omega
              case rel => exact ⟨2 + 1, rfl, by omega, by omega, rfl, ⟨fun h => I.out.1 (by omega), fun h => I.out.2.1 (by omega), fun _ => J.out, fun h => absurd h (by omega)⟩⟩
    · try rw [show ((3 : Nat) : Int) = 3 from rfl]
      by_cases q1 : 281474976710656 < x3
      · have E := Lib.hid (show false = N by rw [← HN.out]; symm; rw [decide_eq_false_iff_not]; unfold Rg; omega)
        clear I
        go_wp2
        go_ret
        exact ⟨by rw [← E.out]; rfl, rfl⟩
      · by_cases q2 : x3 < -281474976710656
        · have E := Lib.hid (show false = N by rw [← HN.out]; symm; rw [decide_eq_false_iff_not]; unfold Rg; omega)
          clear I
          go_wp2
          go_ret
          exact ⟨by rw [← E.out]; rfl, rfl⟩
        · by_cases q3 : 281474976710656 < y3
          · have E := Lib.hid (show false = N by rw [← HN.out]; symm; rw [decide_eq_false_iff_not]; unfold Rg; omega)
            clear I
            go_wp2
            go_ret
            exact ⟨by rw [← E.out]; rfl, rfl⟩
          · by_cases q4 : y3 < -281474976710656
            · have E := Lib.hid (show false = N by rw [← HN.out]; symm; rw [decide_eq_false_iff_not]; unfold Rg; omega)
              clear I
              go_wp2
              go_ret
              exact ⟨by rw [← E.out]; rfl, rfl⟩
            · have J := Lib.hid (show Rg x3 ∧ Rg y3 by unfold Rg; omega)
              have HK := Lib.hid hk
              clear hi hk
              go_wp2
              go_roundg (4 - 3 - 1)
              case measure => have := HK.out; omega
              case rel => exact ⟨3 + 1, rfl, by omega, by omega, rfl, ⟨fun h => I.out.1 (by omega), fun h => I.out.2.1 (by omega), fun h => I.out.2.2.1 (by omega), fun _ => J.out⟩⟩
    · try rw [show ((4 : Nat) : Int) = 4 from rfl]
      have E := Lib.hid (show true = N by rw [← HN.out]; symm; rw [decide_eq_true_iff]; exact ⟨I.out.1 (by omega), I.out.2.1 (by omega), I.out.2.2.1 (by omega), I.out.2.2.2 (by omega)⟩)
      clear I
      go_wp2
      go_ret
      exact ⟨by rw [← E.out]; rfl, rfl⟩
end Go.Proofs.Ytjdhjabbojceeaa
