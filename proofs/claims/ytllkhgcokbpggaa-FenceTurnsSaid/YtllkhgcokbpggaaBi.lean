/- Contracts of the document's plane: Near. -/
import Derived.Test.YtllkhgcokbpggaaBj
import Derived.Test.YtllkhgcokbpggaaBm
import Derived.Deep.LoopGhost
import Derived.Test.YtllkhgcokbpggaaBg
import Derived.Test.YtllkhgcokbpggaaBh
import Derived.Deep.DeepCutAuto
namespace Go.Proofs.Ytllkhgcokbpggaa
open Go.RowKit
set_option linter.unusedVariables false
set_option linter.unusedSimpArgs false

set_option maxHeartbeats 4000000 in
theorem rNear3_any (x0 y0 x1 y1 x2 y2 : Int) (n : Nat) (w : World) (B : BW w n [.int .i64 x0, .int .i64 y0, .int .i64 x1, .int .i64 y1, .int .i64 x2, .int .i64 y2]) :
    Calls Try.prog 30 #[.slice (some ⟨n, 0, none⟩) 3 3] w fun e w' => e = .returned (.bool (decide ((Rg x0 ∧ Rg y0) ∧ (Rg x1 ∧ Rg y1) ∧ (Rg x2 ∧ Rg y2)))) ∧ w' = w := by
  have c0 : w.cell? ⟨n, 0, none⟩ = some (.int .i64 x0) := B.c 0 _ rfl
  have c1 : w.cell? ⟨n, 1, none⟩ = some (.int .i64 y0) := B.c 1 _ rfl
  have c2 : w.cell? ⟨n, 2, none⟩ = some (.int .i64 x1) := B.c 2 _ rfl
  have c3 : w.cell? ⟨n, 3, none⟩ = some (.int .i64 y1) := B.c 3 _ rfl
  have c4 : w.cell? ⟨n, 4, none⟩ = some (.int .i64 x2) := B.c 4 _ rfl
  have c5 : w.cell? ⟨n, 5, none⟩ = some (.int .i64 y2) := B.c 5 _ rfl
  obtain ⟨N, hN⟩ : ∃ N, decide ((Rg x0 ∧ Rg y0) ∧ (Rg x1 ∧ Rg y1) ∧ (Rg x2 ∧ Rg y2)) = N := ⟨_, rfl⟩
  rw [hN]
  have HN := Lib.hid hN
  clear B hN
  go_enter Try.func30, Try.ntmps30
  go_wp2
  go_loopg [3] 3 (fun kx s3 wr => ∃ i : Nat, s3 = .int .i64 i ∧ i ≤ 3 ∧ 3 - i ≤ kx ∧ wr = w ∧ Hid ((0 < i → Rg x0 ∧ Rg y0) ∧ (1 < i → Rg x1 ∧ Rg y1) ∧ (2 < i → Rg x2 ∧ Rg y2)))
  case atStart => exact ⟨0, rfl, by omega, by omega, rfl, ⟨fun h => absurd h (by omega), fun h => absurd h (by omega), fun h => absurd h (by omega)⟩⟩
  case round =>
    obtain ⟨i, rfl, hi, hk, rfl, I⟩ := hrel
    obtain rfl | rfl | rfl | rfl : i = 0 ∨ i = 1 ∨ i = 2 ∨ i = 3 := by omega
    · try rw [show ((0 : Nat) : Int) = 0 from rfl]
      by_cases q1 : 281474976710656 < x0
      · have E := Lib.hid (show false = N by rw [← HN.out]; symm; rw [decide_eq_false_iff_not]; unfold Rg; omega)
        clear I
        go_wp2
        go_ret
        exact ⟨by rw [← E.out]; rfl, rfl⟩
      · by_cases q2 : x0 < -281474976710656
        · have E := Lib.hid (show false = N by rw [← HN.out]; symm; rw [decide_eq_false_iff_not]; unfold Rg; omega)
          clear I
          go_wp2
          go_ret
          exact ⟨by rw [← E.out]; rfl, rfl⟩
        · by_cases q3 : 281474976710656 < y0
          · have E := Lib.hid (show false = N by rw [← HN.out]; symm; rw [decide_eq_false_iff_not]; unfold Rg; omega)
            clear I
            go_wp2
            go_ret
            exact ⟨by rw [← E.out]; rfl, rfl⟩
          · by_cases q4 : y0 < -281474976710656
            · have E := Lib.hid (show false = N by rw [← HN.out]; symm; rw [decide_eq_false_iff_not]; unfold Rg; omega)
              clear I
              go_wp2
              go_ret
              exact ⟨by rw [← E.out]; rfl, rfl⟩
            · have J := Lib.hid (show Rg x0 ∧ Rg y0 by unfold Rg; omega)
              have HK := Lib.hid hk
              clear hi hk
              go_wp2
              go_roundg (3 - 0 - 1)
              case measure => have := HK.out; omega
              case rel => exact ⟨0 + 1, rfl, by omega, by omega, rfl, ⟨fun _ => J.out, fun h => absurd h (by omega), fun h => absurd h (by omega)⟩⟩
    · try rw [show ((1 : Nat) : Int) = 1 from rfl]
      by_cases q1 : 281474976710656 < x1
      · have E := Lib.hid (show false = N by rw [← HN.out]; symm; rw [decide_eq_false_iff_not]; unfold Rg; omega)
        clear I
        go_wp2
        go_ret
        exact ⟨by rw [← E.out]; rfl, rfl⟩
      · by_cases q2 : x1 < -281474976710656
        · have E := Lib.hid (show false = N by rw [← HN.out]; symm; rw [decide_eq_false_iff_not]; unfold Rg; omega)
          clear I
          go_wp2
          go_ret
          exact ⟨by rw [← E.out]; rfl, rfl⟩
        · by_cases q3 : 281474976710656 < y1
          · have E := Lib.hid (show false = N by rw [← HN.out]; symm; rw [decide_eq_false_iff_not]; unfold Rg; omega)
            clear I
            go_wp2
            go_ret
            exact ⟨by rw [← E.out]; rfl, rfl⟩
          · by_cases q4 : y1 < -281474976710656
            · have E := Lib.hid (show false = N by rw [← HN.out]; symm; rw [decide_eq_false_iff_not]; unfold Rg; omega)
              clear I
              go_wp2
              go_ret
              exact ⟨by rw [← E.out]; rfl, rfl⟩
            · have J := Lib.hid (show Rg x1 ∧ Rg y1 by unfold Rg; omega)
              have HK := Lib.hid hk
              clear hi hk
              go_wp2
              go_roundg (3 - 1 - 1)
              case measure => have := HK.out; omega
              case rel => exact ⟨1 + 1, rfl, by omega, by omega, rfl, ⟨fun h => I.out.1 (by omega), fun _ => J.out, fun h => absurd h (by omega)⟩⟩
    · try rw [show ((2 : Nat) : Int) = 2 from rfl]
      by_cases q1 : 281474976710656 < x2
      · have E := Lib.hid (show false = N by rw [← HN.out]; symm; rw [decide_eq_false_iff_not]; unfold Rg; omega)
        clear I
        go_wp2
        go_ret
        exact ⟨by rw [← E.out]; rfl, rfl⟩
      · by_cases q2 : x2 < -281474976710656
        · have E := Lib.hid (show false = N by rw [← HN.out]; symm; rw [decide_eq_false_iff_not]; unfold Rg; omega)
          clear I
          go_wp2
          go_ret
          exact ⟨by rw [← E.out]; rfl, rfl⟩
        · by_cases q3 : 281474976710656 < y2
          · have E := Lib.hid (show false = N by rw [← HN.out]; symm; rw [decide_eq_false_iff_not]; unfold Rg; omega)
            clear I
            go_wp2
            go_ret
            exact ⟨by rw [← E.out]; rfl, rfl⟩
          · by_cases q4 : y2 < -281474976710656
            · have E := Lib.hid (show false = N by rw [← HN.out]; symm; rw [decide_eq_false_iff_not]; unfold Rg; omega)
              clear I
              go_wp2
              go_ret
              exact ⟨by rw [← E.out]; rfl, rfl⟩
            · have J := Lib.hid (show Rg x2 ∧ Rg y2 by unfold Rg; omega)
              have HK := Lib.hid hk
              clear hi hk
              go_wp2
              go_roundg (3 - 2 - 1)
              case measure => have := HK.out; omega
              case rel => exact ⟨2 + 1, rfl, by omega, by omega, rfl, ⟨fun h => I.out.1 (by omega), fun h => I.out.2.1 (by omega), fun _ => J.out⟩⟩
    · try rw [show ((3 : Nat) : Int) = 3 from rfl]
      have E := Lib.hid (show true = N by rw [← HN.out]; symm; rw [decide_eq_true_iff]; exact ⟨I.out.1 (by omega), I.out.2.1 (by omega), I.out.2.2 (by omega)⟩)
      clear I
      go_wp2
      go_ret
      exact ⟨by rw [← E.out]; rfl, rfl⟩
set_option maxHeartbeats 4000000 in
theorem rNear4_any (x0 y0 x1 y1 x2 y2 x3 y3 : Int) (n : Nat) (w : World) (B : BW w n [.int .i64 x0, .int .i64 y0, .int .i64 x1, .int .i64 y1, .int .i64 x2, .int .i64 y2, .int .i64 x3, .int .i64 y3]) :
    Calls Try.prog 30 #[.slice (some ⟨n, 0, none⟩) 4 4] w fun e w' => e = .returned (.bool (decide ((Rg x0 ∧ Rg y0) ∧ (Rg x1 ∧ Rg y1) ∧ (Rg x2 ∧ Rg y2) ∧ (Rg x3 ∧ Rg y3)))) ∧ w' = w := by
  have c0 : w.cell? ⟨n, 0, none⟩ = some (.int .i64 x0) := B.c 0 _ rfl
  have c1 : w.cell? ⟨n, 1, none⟩ = some (.int .i64 y0) := B.c 1 _ rfl
  have c2 : w.cell? ⟨n, 2, none⟩ = some (.int .i64 x1) := B.c 2 _ rfl
  have c3 : w.cell? ⟨n, 3, none⟩ = some (.int .i64 y1) := B.c 3 _ rfl
  have c4 : w.cell? ⟨n, 4, none⟩ = some (.int .i64 x2) := B.c 4 _ rfl
  have c5 : w.cell? ⟨n, 5, none⟩ = some (.int .i64 y2) := B.c 5 _ rfl
  have c6 : w.cell? ⟨n, 6, none⟩ = some (.int .i64 x3) := B.c 6 _ rfl
  have c7 : w.cell? ⟨n, 7, none⟩ = some (.int .i64 y3) := B.c 7 _ rfl
  obtain ⟨N, hN⟩ : ∃ N, decide ((Rg x0 ∧ Rg y0) ∧ (Rg x1 ∧ Rg y1) ∧ (Rg x2 ∧ Rg y2) ∧ (Rg x3 ∧ Rg y3)) = N := ⟨_, rfl⟩
  rw [hN]
  have HN := Lib.hid hN
  clear B hN
  go_enter Try.func30, Try.ntmps30
  go_wp2
  go_loopg [3] 4 (fun kx s3 wr => ∃ i : Nat, s3 = .int .i64 i ∧ i ≤ 4 ∧ 4 - i ≤ kx ∧ wr = w ∧ Hid ((0 < i → Rg x0 ∧ Rg y0) ∧ (1 < i → Rg x1 ∧ Rg y1) ∧ (2 < i → Rg x2 ∧ Rg y2) ∧ (3 < i → Rg x3 ∧ Rg y3)))
  case atStart => exact ⟨0, rfl, by omega, by omega, rfl, ⟨fun h => absurd h (by omega), fun h => absurd h (by omega), fun h => absurd h (by omega), fun h => absurd h (by omega)⟩⟩
  case round =>
    obtain ⟨i, rfl, hi, hk, rfl, I⟩ := hrel
    obtain rfl | rfl | rfl | rfl | rfl : i = 0 ∨ i = 1 ∨ i = 2 ∨ i = 3 ∨ i = 4 := by omega
    · try rw [show ((0 : Nat) : Int) = 0 from rfl]
      by_cases q1 : 281474976710656 < x0
      · have E := Lib.hid (show false = N by rw [← HN.out]; symm; rw [decide_eq_false_iff_not]; unfold Rg; omega)
        clear I
        go_wp2
        go_ret
        exact ⟨by rw [← E.out]; rfl, rfl⟩
      · by_cases q2 : x0 < -281474976710656
        · have E := Lib.hid (show false = N by rw [← HN.out]; symm; rw [decide_eq_false_iff_not]; unfold Rg; omega)
          clear I
          go_wp2
          go_ret
          exact ⟨by rw [← E.out]; rfl, rfl⟩
        · by_cases q3 : 281474976710656 < y0
          · have E := Lib.hid (show false = N by rw [← HN.out]; symm; rw [decide_eq_false_iff_not]; unfold Rg; omega)
            clear I
            go_wp2
            go_ret
            exact ⟨by rw [← E.out]; rfl, rfl⟩
          · by_cases q4 : y0 < -281474976710656
            · have E := Lib.hid (show false = N by rw [← HN.out]; symm; rw [decide_eq_false_iff_not]; unfold Rg; omega)
              clear I
              go_wp2
              go_ret
              exact ⟨by rw [← E.out]; rfl, rfl⟩
            · have J := Lib.hid (show Rg x0 ∧ Rg y0 by unfold Rg; omega)
              have HK := Lib.hid hk
              clear hi hk
              go_wp2
              go_roundg (4 - 0 - 1)
              case measure => have := HK.out; omega
              case rel => exact ⟨0 + 1, rfl, by omega, by omega, rfl, ⟨fun _ => J.out, fun h => absurd h (by omega), fun h => absurd h (by omega), fun h => absurd h (by omega)⟩⟩
    · try rw [show ((1 : Nat) : Int) = 1 from rfl]
      by_cases q1 : 281474976710656 < x1
      · have E := Lib.hid (show false = N by rw [← HN.out]; symm; rw [decide_eq_false_iff_not]; unfold Rg; omega)
        clear I
        go_wp2
        go_ret
        exact ⟨by rw [← E.out]; rfl, rfl⟩
      · by_cases q2 : x1 < -281474976710656
        · have E := Lib.hid (show false = N by rw [← HN.out]; symm; rw [decide_eq_false_iff_not]; unfold Rg; omega)
          clear I
          go_wp2
          go_ret
          exact ⟨by rw [← E.out]; rfl, rfl⟩
        · by_cases q3 : 281474976710656 < y1
          · have E := Lib.hid (show false = N by rw [← HN.out]; symm; rw [decide_eq_false_iff_not]; unfold Rg; omega)
            clear I
            go_wp2
            go_ret
            exact ⟨by rw [← E.out]; rfl, rfl⟩
          · by_cases q4 : y1 < -281474976710656
            · have E := Lib.hid (show false = N by rw [← HN.out]; symm; rw [decide_eq_false_iff_not]; unfold Rg; omega)
              clear I
              go_wp2
              go_ret
              exact ⟨by rw [← E.out]; rfl, rfl⟩
            · have J := Lib.hid (show Rg x1 ∧ Rg y1 by unfold Rg; omega)
              have HK := Lib.hid hk
              clear hi hk
              go_wp2
              go_roundg (4 - 1 - 1)
              case measure => have := HK.out; omega
              case rel => exact ⟨1 + 1, rfl, by omega, by omega, rfl, ⟨fun h => I.out.1 (by omega), fun _ => J.out, fun h => absurd h (by omega), fun h => absurd h (by omega)⟩⟩
    · try rw [show ((2 : Nat) : Int) = 2 from rfl]
      by_cases q1 : 281474976710656 < x2
      · have E := Lib.hid (show false = N by rw [← HN.out]; symm; rw [decide_eq_false_iff_not]; unfold Rg; omega)
        clear I
        go_wp2
        go_ret
        exact ⟨by rw [← E.out]; rfl, rfl⟩
      · by_cases q2 : x2 < -281474976710656
        · have E := Lib.hid (show false = N by rw [← HN.out]; symm; rw [decide_eq_false_iff_not]; unfold Rg; omega)
          clear I
          go_wp2
          go_ret
          exact ⟨by rw [← E.out]; rfl, rfl⟩
        · by_cases q3 : 281474976710656 < y2
          · have E := Lib.hid (show false = N by rw [← HN.out]; symm; rw [decide_eq_false_iff_not]; unfold Rg; omega)
            clear I
            go_wp2
            go_ret
            exact ⟨by rw [← E.out]; rfl, rfl⟩
          · by_cases q4 : y2 < -281474976710656
            · have E := Lib.hid (show false = N by rw [← HN.out]; symm; rw [decide_eq_false_iff_not]; unfold Rg; omega)
              clear I
              go_wp2
              go_ret
              exact ⟨by rw [← E.out]; rfl, rfl⟩
            · have J := Lib.hid (show Rg x2 ∧ Rg y2 by unfold Rg; omega)
              have HK := Lib.hid hk
              clear hi hk
              go_wp2
              go_roundg (4 - 2 - 1)
              case measure => have := HK.out; omega
              case rel => exact ⟨2 + 1, rfl, by omega, by omega, rfl, ⟨fun h => I.out.1 (by omega), fun h => I.out.2.1 (by omega), fun _ => J.out, fun h => absurd h (by omega)⟩⟩
    · try rw [show ((3 : Nat) : Int) = 3 from rfl]
      by_cases q1 : 281474976710656 < x3
      · have E := Lib.hid (show false = N by rw [← HN.out]; symm; rw [decide_eq_false_iff_not]; unfold Rg; omega)
        clear I
        go_wp2
        go_ret
        exact ⟨by rw [← E.out]; rfl, rfl⟩
      · by_cases q2 : x3 < -281474976710656
        · have E := Lib.hid (show false = N by rw [← HN.out]; symm; rw [decide_eq_false_iff_not]; unfold Rg; omega)
          clear I
          go_wp2
          go_ret
          exact ⟨by rw [← E.out]; rfl, rfl⟩
        · by_cases q3 : 281474976710656 < y3
          · have E := Lib.hid (show false = N by rw [← HN.out]; symm; rw [decide_eq_false_iff_not]; unfold Rg; omega)
            clear I
            go_wp2
            go_ret
            exact ⟨by rw [← E.out]; rfl, rfl⟩
          · by_cases q4 : y3 < -281474976710656
            · have E := Lib.hid (show false = N by rw [← HN.out]; symm; rw [decide_eq_false_iff_not]; unfold Rg; omega)
              clear I
              go_wp2
              go_ret
              exact ⟨by rw [← E.out]; rfl, rfl⟩
            · have J := Lib.hid (show Rg x3 ∧ Rg y3 by unfold Rg; omega)
              have HK := Lib.hid hk
              clear hi hk
              go_wp2
              go_roundg (4 - 3 - 1)
              case measure => have := HK.out; omega
              case rel => exact ⟨3 + 1, rfl, by omega, by omega, rfl, ⟨fun h => I.out.1 (by omega), fun h => I.out.2.1 (by omega), fun h => I.out.2.2.1 (by omega), fun _ => J.out⟩⟩
    · try rw [show ((4 : Nat) : Int) = 4 from rfl]
      have E := Lib.hid (show true = N by rw [← HN.out]; symm; rw [decide_eq_true_iff]; exact ⟨I.out.1 (by omega), I.out.2.1 (by omega), I.out.2.2.1 (by omega), I.out.2.2.2 (by omega)⟩)
      clear I
      go_wp2
      go_ret
      exact ⟨by rw [← E.out]; rfl, rfl⟩
end Go.Proofs.Ytllkhgcokbpggaa
namespace Go.Proofs.Ytllkhgcokbpggaa
open Go.RowKit
set_option linter.unusedVariables false
set_option linter.unusedSimpArgs false

theorem BW.put {W : World} {n i : Nat} {l : List Value} (k : BW W n l) (v : Value) (u : Value) (hu : l[i]? = some u) : BW (W.setCell ⟨n, i, none⟩ v) n (l.set i v) := by
  refine ⟨fun j x h => ?_, fun j => (World.frozen?_setCell _ _ _ _).trans (k.f j), by rw [set_size]; exact k.lt⟩
  by_cases e : i = j
  · subst e
    have : x = v := by
      have hl : i < l.length := by
        apply Classical.byContradiction; intro c
        rw [List.getElem?_eq_none (by omega)] at hu; cases hu
      rw [List.getElem?_set_self hl] at h; cases h; rfl
    subst this
    exact World.cell?_setCell_same _ _ _ (k.c i u hu)
  · rw [List.getElem?_set_ne e] at h
    exact (World.cell?_setCell_other _ _ _ _ (fun h' => e (by cases h'; rfl))).trans (k.c j x h)
set_option maxHeartbeats 1000000 in
theorem rBetween_any (n a b : Int) (w : World) :
    Calls Try.prog 74 #[.int .i64 n, .int .i64 a, .int .i64 b] w fun e w' => e = .returned (.bool (btw n a b)) ∧ w' = w := by
  go_enter Try.func74, Try.ntmps74
  go_wp2
  all_goals
    go_ret
    refine ⟨retB ?_, rfl⟩
    unfold btw
    first
      | (rw [decide_eq_decide]; omega)
      | (symm; rw [decide_eq_true_iff]; omega)
      | (symm; rw [decide_eq_false_iff_not]; omega)
/-- a number of the document's own, turned round -/
theorem nv_neg (n : Int) : (!decide (n < 0) && !decide ((n.natAbs : Int) = 0)) = decide (-n < 0) ∧ ((-n).natAbs : Int) = n.natAbs := by
  refine ⟨?_, by omega⟩
  by_cases h : n < 0
  · rw [decide_eq_true h, decide_eq_false (by omega : ¬ -n < 0)]; rfl
  · by_cases z : n = 0
    · subst z; rfl
    · rw [decide_eq_false h, decide_eq_false (by omega : ¬ (n.natAbs : Int) = 0), decide_eq_true (by omega : -n < 0)]; rfl
end Go.Proofs.Ytllkhgcokbpggaa
namespace Go.Proofs.Ytllkhgcokbpggaa
open Go.RowKit
set_option linter.unusedVariables false
set_option linter.unusedSimpArgs false

theorem BW.h5 {W : World} {n : Nat} {a b c d e : Value} (k : BW W n [a, b, c, d, e]) : W.cell? ⟨n, 0, none⟩ = some a ∧ W.cell? ⟨n, 1, none⟩ = some b ∧ W.cell? ⟨n, 2, none⟩ = some c ∧ W.cell? ⟨n, 3, none⟩ = some d ∧ W.cell? ⟨n, 4, none⟩ = some e := ⟨k.c 0 _ rfl, k.c 1 _ rfl, k.c 2 _ rfl, k.c 3 _ rfl, k.c 4 _ rfl⟩
set_option maxHeartbeats 1000000 in
theorem rOn_any (ax ay bx by' px py : Int) (w : World) :
    Calls Try.prog 52 #[.agg #[.int .i64 ax, .int .i64 ay], .agg #[.int .i64 bx, .int .i64 by'], .agg #[.int .i64 px, .int .i64 py]] w fun e w' => e = .returned (.bool (onB ⟨ax, ay⟩ ⟨bx, by'⟩ ⟨px, py⟩)) ∧ Below w.heap.size w w' := by
  have X := Lib.hid (fun (W : World) => rBetween_any px ax bx W)
  have Y := Lib.hid (fun (W : World) => rBetween_any py ay by' W)
  have E := Lib.hid (show (btw px ax bx && btw py ay by') = onB ⟨ax, ay⟩ ⟨bx, by'⟩ ⟨px, py⟩ from rfl)
  rw [← E.out]
  generalize btw px ax bx = s at *
  generalize btw py ay by' = t at *
  clear E
  cases s with
  | false =>
    go_enter Try.func52, Try.ntmps52
    go_wp2_with fail
    refine (X.out _).mono ?_
    rintro e w1 ⟨rfl, rfl⟩
    go_wp2
    go_ret
    exact ⟨rfl, by repeat (first | exact Below.refl _ _ | assumption | refine Below.setCell ?_ (by first | omega | (simp; done) | (simp; omega)) _ | refine Below.alloc ?_ (by first | omega | (simp; done) | (simp; omega)) _ | refine below_drewN ?_ _ | refine Below.drew ?_ | refine Below.trans ?_ (Below.mono (by assumption) (by first | omega | (simp; done) | (simp; omega))))⟩
  | true =>
    go_enter Try.func52, Try.ntmps52
    go_wp2_with fail
    refine (X.out _).mono ?_
    rintro e w1 ⟨rfl, rfl⟩
    go_wp2_with fail
    refine (Y.out _).mono ?_
    rintro e w1 ⟨rfl, rfl⟩
    go_wp2
    go_ret
    exact ⟨by simp, by repeat (first | exact Below.refl _ _ | assumption | refine Below.setCell ?_ (by first | omega | (simp; done) | (simp; omega)) _ | refine Below.alloc ?_ (by first | omega | (simp; done) | (simp; omega)) _ | refine below_drewN ?_ _ | refine Below.drew ?_ | refine Below.trans ?_ (Below.mono (by assumption) (by first | omega | (simp; done) | (simp; omega))))⟩
set_option maxHeartbeats 2000000 in
theorem rOpposite_any (n : Int) (w : World) (h : In128 n) :
    Calls Try.prog 62 #[.agg #[.bool (decide (n < 0)), .int .u64 (d0 (n.natAbs)), .int .u64 (d1 (n.natAbs)), .int .u64 (d2 (n.natAbs)), .int .u64 (d3 (n.natAbs))]] w fun e w' => e = .returned (.agg #[.bool (decide (-n < 0)), .int .u64 (d0 ((-n).natAbs)), .int .u64 (d1 ((-n).natAbs)), .int .u64 (d2 ((-n).natAbs)), .int .u64 (d3 ((-n).natAbs))]) ∧ Below w.heap.size w w' := by
  have Z := Lib.hid (fun (b : Bool) (W : World) => Zero_any b (n.natAbs : Int) W (by omega) (by unfold In128 at h; omega))
  have E := nv_neg n
  rw [E.2, ← E.1]
  clear E h
  generalize d0 (n.natAbs : Int) = x0 at *
  generalize d1 (n.natAbs : Int) = x1 at *
  generalize d2 (n.natAbs : Int) = x2 at *
  generalize d3 (n.natAbs : Int) = x3 at *
  generalize decide ((n.natAbs : Int) = 0) = z at *
  generalize decide (n < 0) = s at *
  cases s with
  | true =>
    go_enter Try.func62, Try.ntmps62
    go_wp2
    exact bodyPost_ret (v := .agg #[.bool false, .int .u64 x0, .int .u64 x1, .int .u64 x2, .int .u64 x3]) (by simp [results, Try.results62, go_sem]) rfl ⟨rfl, by repeat (first | exact Below.refl _ _ | assumption | refine Below.setCell ?_ (by first | omega | (simp; done) | (simp; omega)) _ | refine Below.alloc ?_ (by first | omega | (simp; done) | (simp; omega)) _ | refine below_drewN ?_ _ | refine Below.drew ?_ | refine Below.trans ?_ (Below.mono (by assumption) (by first | omega | (simp; done) | (simp; omega))))⟩
  | false =>
    go_enter Try.func62, Try.ntmps62
    go_wp2_with fail
    refine calls_gen (S := fun W => BW W w.heap.size [.bool false, .int .u64 x0, .int .u64 x1, .int .u64 x2, .int .u64 x3] ∧ BW W (w.heap.size + 1) [.bool false, .int .u64 0, .int .u64 0, .int .u64 0, .int .u64 0] ∧ Below w.heap.size w W) ⟨(BW.new w w.heap.size [_, _, _, _, _] _ rfl).alloc _, BW.new _ _ [_, _, _, _, _] _ (by simp), by repeat (first | exact Below.refl _ _ | assumption | refine Below.setCell ?_ (by first | omega | (simp; done) | (simp; omega)) _ | refine Below.alloc ?_ (by first | omega | (simp; done) | (simp; omega)) _ | refine below_drewN ?_ _ | refine Below.drew ?_ | refine Below.trans ?_ (Below.mono (by assumption) (by first | omega | (simp; done) | (simp; omega))))⟩ (fun W0 hS => ?_)
    have A0 := Lib.hid hS.1
    have R0 := Lib.hid hS.2.1
    have L0 := Lib.hid hS.2.2
    clear hS
    refine (Z.out _ _).mono ?_
    rintro e w1 ⟨rfl, h⟩
    have A1 := Lib.hid (A0.out.below h A0.out.lt)
    have R1 := Lib.hid (R0.out.below h R0.out.lt)
    have L1 := Lib.hid (L0.out.trans (h.mono L0.out.size))
    clear h A0 R0 L0 Z
    obtain ⟨a0, a1, a2, a3, a4⟩ := A1.out.h5
    have af := A1.out.f
    obtain ⟨r0, r1, r2, r3, r4⟩ := R1.out.h5
    have rf := R1.out.f
    have ne : w.heap.size + 1 ≠ w.heap.size := by omega
    go_wp2
    exact bodyPost_ret (v := .agg #[.bool (!z), .int .u64 x0, .int .u64 x1, .int .u64 x2, .int .u64 x3]) (by simp [results, Try.results62, go_sem, r0, r1, r2, r3, r4, a0, a1, a2, a3, a4]) rfl ⟨by simp, by
      have K := L1.out
      refine ((((((K.setCell (p := ⟨w.heap.size, 0, none⟩) ?_ _).setCell (p := ⟨w.heap.size + 1, 0, none⟩) ?_ _).setCell (p := ⟨w.heap.size + 1, 1, none⟩) ?_ _).setCell (p := ⟨w.heap.size + 1, 2, none⟩) ?_ _).setCell (p := ⟨w.heap.size + 1, 3, none⟩) ?_ _).setCell (p := ⟨w.heap.size + 1, 4, none⟩) ?_ _) <;> simp⟩
end Go.Proofs.Ytllkhgcokbpggaa
namespace Go.Proofs.Ytllkhgcokbpggaa
open Go.RowKit
set_option linter.unusedVariables false
set_option linter.unusedSimpArgs false

/-- the blocks of a list hold their values, and nothing of w is turned -/
structure St (w W : World) (L : List (Nat × List Value)) : Prop where
  b : ∀ n l, (n, l) ∈ L → BW W n l
  l : Below w.heap.size w W
theorem St.step {w W W' : World} {L : List (Nat × List Value)} (k : St w W L) (h : Below W.heap.size W W') : St w W' L :=
  ⟨fun n l e => (k.b n l e).below h (k.b n l e).lt, k.l.trans (h.mono k.l.size)⟩
theorem St.drew {w W : World} {L : List (Nat × List Value)} (k : St w W L) : St w W.drew L := ⟨fun n l e => (k.b n l e).drew, k.l.drew⟩
theorem St.alloc {w W : World} {L : List (Nat × List Value)} (k : St w W L) (o : Obj) : St w (W.alloc o) L := k.step ((Below.refl _ _).alloc (Nat.le_refl _) o)
theorem St.far {w W : World} {L : List (Nat × List Value)} (k : St w W L) {r : Nat} (h : w.heap.size ≤ r) (hr : ∀ n l, (n, l) ∈ L → r ≠ n) (i : Nat) (v : Value) : St w (W.setCell ⟨r, i, none⟩ v) L :=
  ⟨fun n l e => (k.b n l e).far (hr n l e) i v, k.l.setCell (p := ⟨r, i, none⟩) h v⟩
theorem St.nil {w W : World} (h : Below w.heap.size w W) : St w W [] := ⟨(fun n l e => by simp at e), h⟩
theorem St.cons {w W : World} {L : List (Nat × List Value)} {n : Nat} {l : List Value} (a : BW W n l) (k : St w W L) : St w W ((n, l) :: L) :=
  ⟨fun m q e => by
    rcases List.mem_cons.1 e with h | h
    · cases h; exact a
    · exact k.b m q h, k.l⟩
theorem BW.h2' {W : World} {n : Nat} {a b : Value} (k : BW W n [a, b]) : W.cell? ⟨n, 0, none⟩ = some a ∧ W.cell? ⟨n, 1, none⟩ = some b := ⟨k.c 0 _ rfl, k.c 1 _ rfl⟩
theorem BW.far5 {W : World} {n r : Nat} {l : List Value} (k : BW W n l) (e : r ≠ n) (u0 u1 u2 u3 u4 : Value) : BW (((((W.setCell ⟨r, 0, none⟩ u0).setCell ⟨r, 1, none⟩ u1).setCell ⟨r, 2, none⟩ u2).setCell ⟨r, 3, none⟩ u3).setCell ⟨r, 4, none⟩ u4) n l :=
  ((((k.far e 0 u0).far e 1 u1).far e 2 u2).far e 3 u3).far e 4 u4
theorem BW.put5 {W : World} {n : Nat} {a b c d e : Value} (k : BW W n [a, b, c, d, e]) (u0 u1 u2 u3 u4 : Value) : BW (((((W.setCell ⟨n, 0, none⟩ u0).setCell ⟨n, 1, none⟩ u1).setCell ⟨n, 2, none⟩ u2).setCell ⟨n, 3, none⟩ u3).setCell ⟨n, 4, none⟩ u4) n [u0, u1, u2, u3, u4] :=
  (((((k.put (i := 0) u0 a rfl).put (i := 1) u1 b rfl).put (i := 2) u2 c rfl).put (i := 3) u3 d rfl).put (i := 4) u4 e rfl)
theorem below_put5 {w W : World} (k : Below w.heap.size w W) {r : Nat} (h : w.heap.size ≤ r) (u0 u1 u2 u3 u4 : Value) : Below w.heap.size w (((((W.setCell ⟨r, 0, none⟩ u0).setCell ⟨r, 1, none⟩ u1).setCell ⟨r, 2, none⟩ u2).setCell ⟨r, 3, none⟩ u3).setCell ⟨r, 4, none⟩ u4) :=
  ((((k.setCell (p := ⟨r, 0, none⟩) h u0).setCell (p := ⟨r, 1, none⟩) h u1).setCell (p := ⟨r, 2, none⟩) h u2).setCell (p := ⟨r, 3, none⟩) h u3).setCell (p := ⟨r, 4, none⟩) h u4
/-- the area's numbers fit -/
theorem area_fit {ax ay bx by' px py : Int} (h1 : Rg ax) (h2 : Rg ay) (h3 : Rg bx) (h4 : Rg by') (h5 : Rg px) (h6 : Rg py) :
    In128 ((bx - ax) * (py - ay)) ∧ In128 ((by' - ay) * (px - ax)) ∧ In128 (-((by' - ay) * (px - ax))) ∧ clipW ((bx - ax) * (py - ay) + -((by' - ay) * (px - ax))) = area ⟨ax, ay⟩ ⟨bx, by'⟩ ⟨px, py⟩ ∧ In128 (area ⟨ax, ay⟩ ⟨bx, by'⟩ ⟨px, py⟩) := by
  unfold Rg at *
  have m1 := mul_bound (a := bx - ax) (b := py - ay) (by omega) (by omega) (by omega) (by omega)
  have m2 := mul_bound (a := by' - ay) (b := px - ax) (by omega) (by omega) (by omega) (by omega)
  have p1 : ∀ {x y : Int}, -562949953421312 ≤ x → x ≤ 562949953421312 → -562949953421312 ≤ y → y ≤ 562949953421312 → -316912650057057350374175801344 ≤ x * y ∧ x * y ≤ 316912650057057350374175801344 := by
    intro x y x0 x1 y0 y1
    have h1 : 0 ≤ (562949953421312 - x) * (562949953421312 + y) := Int.mul_nonneg (by omega) (by omega)
    have h2 : 0 ≤ (562949953421312 + x) * (562949953421312 - y) := Int.mul_nonneg (by omega) (by omega)
    have h3 : 0 ≤ (562949953421312 - x) * (562949953421312 - y) := Int.mul_nonneg (by omega) (by omega)
    have h4 : 0 ≤ (562949953421312 + x) * (562949953421312 + y) := Int.mul_nonneg (by omega) (by omega)
    have e1 : (562949953421312 - x) * (562949953421312 + y) = 316912650057057350374175801344 + 562949953421312 * y - 562949953421312 * x - x * y := by grind
    have e2 : (562949953421312 + x) * (562949953421312 - y) = 316912650057057350374175801344 - 562949953421312 * y + 562949953421312 * x - x * y := by grind
    have e3 : (562949953421312 - x) * (562949953421312 - y) = 316912650057057350374175801344 - 562949953421312 * y - 562949953421312 * x + x * y := by grind
    have e4 : (562949953421312 + x) * (562949953421312 + y) = 316912650057057350374175801344 + 562949953421312 * y + 562949953421312 * x + x * y := by grind
    omega
  have q1 := p1 (x := bx - ax) (y := py - ay) (by omega) (by omega) (by omega) (by omega)
  have q2 := p1 (x := by' - ay) (y := px - ax) (by omega) (by omega) (by omega) (by omega)
  unfold area
  simp only []
  generalize (bx - ax) * (py - ay) = k at *
  generalize (by' - ay) * (px - ax) = m at *
  have i1 : In128 (k + -m) := by unfold In128; omega
  refine ⟨by unfold In128; omega, by unfold In128; omega, by unfold In128; omega, ?_, by unfold In128; omega⟩
  unfold clipW
  rw [if_pos i1]; omega
theorem St.tail {w W : World} {L : List (Nat × List Value)} {x : Nat × List Value} (k : St w W (x :: L)) : St w W L := ⟨fun n l e => k.b n l (List.mem_cons_of_mem _ e), k.l⟩
theorem St.far5 {w W : World} {L : List (Nat × List Value)} (k : St w W L) {r : Nat} (h : w.heap.size ≤ r) (hr : ∀ n l, (n, l) ∈ L → r ≠ n) (u0 u1 u2 u3 u4 : Value) : St w (((((W.setCell ⟨r, 0, none⟩ u0).setCell ⟨r, 1, none⟩ u1).setCell ⟨r, 2, none⟩ u2).setCell ⟨r, 3, none⟩ u3).setCell ⟨r, 4, none⟩ u4) L :=
  ((((k.far h hr 0 u0).far h hr 1 u1).far h hr 2 u2).far h hr 3 u3).far h hr 4 u4
theorem ar_ne {w W : World} {L : List (Nat × List Value)} (k : St w W L) : ∀ n l, (n, l) ∈ L → W.heap.size ≠ n := fun n l e => by have := (k.b n l e).lt; omega
end Go.Proofs.Ytllkhgcokbpggaa
namespace Go.Proofs.Ytllkhgcokbpggaa
open Go.RowKit
set_option linter.unusedVariables false
set_option linter.unusedSimpArgs false

/-- the blocks of Area -/
def ArL (w : World) (n1 : Nat) (ax ay bx by' px py : Int) (b : Bool) (x0 x1 x2 x3 : Int) : List (Nat × List Value) := ((n1, [.bool b, .int .u64 x0, .int .u64 x1, .int .u64 x2, .int .u64 x3]) :: [(w.heap.size, [.int .i64 ax, .int .i64 ay]), (w.heap.size + 1, [.int .i64 bx, .int .i64 by']), (w.heap.size + 1 + 1, [.int .i64 px, .int .i64 py]), (w.heap.size + 1 + 1 + 1, [.bool false, .int .u64 0, .int .u64 0, .int .u64 0, .int .u64 0])])
theorem ar_n {w W : World} {n1 : Nat} {ax ay bx by' px py : Int} {b : Bool} {x0 x1 x2 x3 : Int} (k : St w W (ArL w n1 ax ay bx by' px py b x0 x1 x2 x3)) : BW W n1 [.bool b, .int .u64 x0, .int .u64 x1, .int .u64 x2, .int .u64 x3] := k.b _ _ (List.mem_cons_self ..)
theorem ar_r {w W : World} {n1 : Nat} {ax ay bx by' px py : Int} {b : Bool} {x0 x1 x2 x3 : Int} (k : St w W (ArL w n1 ax ay bx by' px py b x0 x1 x2 x3)) : BW W (w.heap.size + 1 + 1 + 1) [.bool false, .int .u64 0, .int .u64 0, .int .u64 0, .int .u64 0] := k.b _ _ (by unfold ArL; simp)
theorem ar_sv {w W : World} {n1 : Nat} {ax ay bx by' px py : Int} {b : Bool} {x0 x1 x2 x3 : Int} (k : St w W (ArL w n1 ax ay bx by' px py b x0 x1 x2 x3)) : (W.cell? ⟨w.heap.size, 0, none⟩ = some (.int .i64 ax) ∧ W.cell? ⟨w.heap.size, 1, none⟩ = some (.int .i64 ay)) ∧ (W.cell? ⟨w.heap.size + 1, 0, none⟩ = some (.int .i64 bx) ∧ W.cell? ⟨w.heap.size + 1, 1, none⟩ = some (.int .i64 by')) ∧ (W.cell? ⟨w.heap.size + 1 + 1, 0, none⟩ = some (.int .i64 px) ∧ W.cell? ⟨w.heap.size + 1 + 1, 1, none⟩ = some (.int .i64 py)) ∧ (W.cell? ⟨n1, 0, none⟩ = some (.bool b) ∧ W.cell? ⟨n1, 1, none⟩ = some (.int .u64 x0) ∧ W.cell? ⟨n1, 2, none⟩ = some (.int .u64 x1) ∧ W.cell? ⟨n1, 3, none⟩ = some (.int .u64 x2) ∧ W.cell? ⟨n1, 4, none⟩ = some (.int .u64 x3)) :=
  ⟨(k.b _ _ (by unfold ArL; simp)).h2', (k.b _ _ (by unfold ArL; simp)).h2', (k.b _ _ (by unfold ArL; simp)).h2', (ar_n k).h5⟩
/-- the area in a block of its own, and the result's block -/
def ArCut (w : World) (A : Int) (t : Value) (W : World) : Prop := ∃ n4 : Nat, t = .pointer (some ⟨n4, 0, none⟩) ∧ BW W n4 [.bool (decide (A < 0)), .int .u64 (d0 A.natAbs), .int .u64 (d1 A.natAbs), .int .u64 (d2 A.natAbs), .int .u64 (d3 A.natAbs)] ∧ BW W (w.heap.size + 1 + 1 + 1) [.bool false, .int .u64 0, .int .u64 0, .int .u64 0, .int .u64 0] ∧ Below w.heap.size w W
set_option maxRecDepth 100000 in
set_option maxHeartbeats 4000000 in
theorem rArea_any (ax ay bx by' px py A : Int) (w : World) (h1 : Rg ax) (h2 : Rg ay) (h3 : Rg bx) (h4 : Rg by') (h5 : Rg px) (h6 : Rg py) (hA : area ⟨ax, ay⟩ ⟨bx, by'⟩ ⟨px, py⟩ = A) :
    Calls Try.prog 51 #[.agg #[.int .i64 ax, .int .i64 ay], .agg #[.int .i64 bx, .int .i64 by'], .agg #[.int .i64 px, .int .i64 py]] w fun e w' => e = .returned (.agg #[.bool (decide (A < 0)), .int .u64 (d0 (A.natAbs)), .int .u64 (d1 (A.natAbs)), .int .u64 (d2 (A.natAbs)), .int .u64 (d3 (A.natAbs))]) ∧ Below w.heap.size w w' := by
  obtain ⟨f1, f2, f3, f4, f5⟩ := area_fit h1 h2 h3 h4 h5 h6
  rw [hA] at f4 f5
  have u1 : IntKind.i64.wrap (by' - ay) = by' - ay := IntWalk.i64_in _ (by unfold Rg at *; omega)
  have u2 : IntKind.i64.wrap (px - ax) = px - ax := IntWalk.i64_in _ (by unfold Rg at *; omega)
  have u3 : IntKind.i64.wrap (bx - ax) = bx - ax := IntWalk.i64_in _ (by unfold Rg at *; omega)
  have u4 : IntKind.i64.wrap (py - ay) = py - ay := IntWalk.i64_in _ (by unfold Rg at *; omega)
  have X1 := Lib.hid (fun (W : World) => rMul_any (by' - ay) (px - ax) W (by unfold Rg at *; omega) (by unfold Rg at *; omega) (by unfold Rg at *; omega) (by unfold Rg at *; omega))
  have X2 := Lib.hid (fun (W : World) => rMul_any (bx - ax) (py - ay) W (by unfold Rg at *; omega) (by unfold Rg at *; omega) (by unfold Rg at *; omega) (by unfold Rg at *; omega))
  have X4 := Lib.hid (fun (W : World) => rAdd_any ((bx - ax) * (py - ay)) (-((by' - ay) * (px - ax))) W f1 f3)
  rw [f4] at X4
  generalize (bx - ax) * (py - ay) = k at *
  generalize (by' - ay) * (px - ax) = m at *
  have Z := Lib.hid (fun (b : Bool) (W : World) => Zero_any b (m.natAbs : Int) W (by omega) (by unfold In128 at f2; omega))
  have E := nv_neg m
  rw [E.2, ← E.1] at X4
  clear E f1 f2 f3 f4 f5 hA
  generalize d0 (m.natAbs : Int) = x0 at *
  generalize d1 (m.natAbs : Int) = x1 at *
  generalize d2 (m.natAbs : Int) = x2 at *
  generalize d3 (m.natAbs : Int) = x3 at *
  generalize decide ((m.natAbs : Int) = 0) = z at *
  generalize decide (m < 0) = s at *
  generalize fitW (k + -m) = fw at *
  have U := Lib.hid (And.intro u1 (And.intro u2 (And.intro u3 u4)))
  go_enter Try.func51, Try.ntmps51
  go_wp2_with fail
  refine calls_gen (S := fun W => St w W [(w.heap.size, [.int .i64 ax, .int .i64 ay]), (w.heap.size + 1, [.int .i64 bx, .int .i64 by']), (w.heap.size + 1 + 1, [.int .i64 px, .int .i64 py]), (w.heap.size + 1 + 1 + 1, [.bool false, .int .u64 0, .int .u64 0, .int .u64 0, .int .u64 0])])
    (St.cons ((((BW.new w w.heap.size [_, _] _ rfl).alloc _).alloc _).alloc _) (St.cons (((BW.new _ _ [_, _] _ (by simp)).alloc _).alloc _) (St.cons ((BW.new _ _ [_, _] _ (by simp)).alloc _) (St.cons (BW.new _ _ [_, _, _, _, _] _ (by simp)) (St.nil (by repeat (first | exact Below.refl _ _ | assumption | refine Below.setCell ?_ (by first | omega | (simp; done) | (simp; omega)) _ | refine Below.alloc ?_ (by first | omega | (simp; done) | (simp; omega)) _ | refine below_drewN ?_ _ | refine Below.drew ?_ | refine Below.trans ?_ (Below.mono (by assumption) (by first | omega | (simp; done) | (simp; omega)))))))))) (fun W0 hS => ?_)
  have K0 := Lib.hid hS
  clear hS
  refine (X1.out _).mono ?_
  rintro e w1 ⟨rfl, h⟩
  have K1 := Lib.hid (K0.out.step h)
  clear h K0 X1
  go_wp2_with fail
  refine calls_gen (S := fun W => St w W (ArL w w1.heap.size ax ay bx by' px py (!s) x0 x1 x2 x3)) (St.cons (BW.new w1 _ [_, _, _, _, _] _ rfl) (K1.out.alloc _)) (fun W1 hS => ?_)
  have hz : w.heap.size + 1 + 1 + 1 < w1.heap.size := (K1.out.b (w.heap.size + 1 + 1 + 1) [.bool false, .int .u64 0, .int .u64 0, .int .u64 0, .int .u64 0] (by simp)).lt
  clear K1
  generalize w1.heap.size = n1 at *
  have K2 := Lib.hid hS
  clear hS
  refine (Z.out _ _).mono ?_
  rintro e w2 ⟨rfl, h⟩
  have K3 := Lib.hid (K2.out.step h)
  clear h K2 Z
  have K3ne : ∀ (m : Nat) (q : List Value), (m, q) ∈ ([(w.heap.size, [.int .i64 ax, .int .i64 ay]), (w.heap.size + 1, [.int .i64 bx, .int .i64 by']), (w.heap.size + 1 + 1, [.int .i64 px, .int .i64 py]), (w.heap.size + 1 + 1 + 1, [.bool false, .int .u64 0, .int .u64 0, .int .u64 0, .int .u64 0])] : List (Nat × List Value)) → m < n1 := fun m q e => by
    simp at e
    rcases e with e | e | e | e <;> (have := e.1; omega)
  cases z with
  | false =>
    simp only [Bool.not_false, Bool.and_true] at X4
    go_wp2_with fail
    refine wp_gen (S := fun W => St w W (ArL w n1 ax ay bx by' px py (!s) x0 x1 x2 x3)) K3.out (fun W2 hS => ?_)
    have K0 := Lib.hid hS.drew
    clear hS K3
    go_cut [8] (fun t W => ArCut w A t W)
    case first =>
      refine wp_region_held_drew (S := fun W => (W.cell? ⟨w.heap.size, 0, none⟩ = some (.int .i64 ax) ∧ W.cell? ⟨w.heap.size, 1, none⟩ = some (.int .i64 ay)) ∧ (W.cell? ⟨w.heap.size + 1, 0, none⟩ = some (.int .i64 bx) ∧ W.cell? ⟨w.heap.size + 1, 1, none⟩ = some (.int .i64 by')) ∧ (W.cell? ⟨w.heap.size + 1 + 1, 0, none⟩ = some (.int .i64 px) ∧ W.cell? ⟨w.heap.size + 1 + 1, 1, none⟩ = some (.int .i64 py)) ∧ (W.cell? ⟨n1, 0, none⟩ = some (.bool (!s)) ∧ W.cell? ⟨n1, 1, none⟩ = some (.int .u64 x0) ∧ W.cell? ⟨n1, 2, none⟩ = some (.int .u64 x1) ∧ W.cell? ⟨n1, 3, none⟩ = some (.int .u64 x2) ∧ W.cell? ⟨n1, 4, none⟩ = some (.int .u64 x3))) (by kernel_rfl) (ar_sv K0.out) (fun hHeld => ?_)
      generalize W2.drew = w0 at *
      refine tkD 0 29 (v := ?_) ?_ hHeld ?_
      rotate_left 1
      (intro W hSw; (try dsimp only at hSw); go_simp; try with_reducible rfl)
      (try simp only [putA, putB, putC, putD])
      refine tkD 1 30 (v := ?_) ?_ hHeld ?_
      rotate_left 1
      (intro W hSw; (try dsimp only at hSw); go_simp; try with_reducible rfl)
      (try simp only [putA, putB, putC, putD])
      refine tkD 2 31 (v := ?_) ?_ hHeld ?_
      rotate_left 1
      (intro W hSw; (try dsimp only at hSw); go_simp; try with_reducible rfl)
      (try simp only [putA, putB, putC, putD])
      refine tkD 3 32 (v := ?_) ?_ hHeld ?_
      rotate_left 1
      (intro W hSw; (try dsimp only at hSw); go_simp; try with_reducible rfl)
      (try simp only [putA, putB, putC, putD])
      refine tkD 4 33 (v := ?_) ?_ hHeld ?_
      rotate_left 1
      (intro W hSw; (try dsimp only at hSw); go_simp; try with_reducible rfl)
      (try simp only [putA, putB, putC, putD])
      refine tkD 5 34 (v := ?_) ?_ hHeld ?_
      rotate_left 1
      (intro W hSw; (try dsimp only at hSw); go_simp; try with_reducible rfl)
      (try simp only [putA, putB, putC, putD])
      refine tkD 6 35 (v := ?_) ?_ hHeld ?_
      rotate_left 1
      (intro W hSw; (try dsimp only at hSw); go_simp; try with_reducible rfl)
      (try simp only [putA, putB, putC, putD])
      refine tkD 7 36 (v := ?_) ?_ hHeld ?_
      rotate_left 1
      (intro W hSw; (try dsimp only at hSw); go_simp; try with_reducible rfl)
      (try simp only [putA, putB, putC, putD])
      refine tkD 8 37 (v := ?_) ?_ hHeld ?_
      rotate_left 1
      (intro W hSw; (try dsimp only at hSw); go_simp; try with_reducible rfl)
      (try simp only [putA, putB, putC, putD])
      refine tkD 9 38 (v := ?_) ?_ hHeld ?_
      rotate_left 1
      (intro W hSw; (try dsimp only at hSw); go_simp; try with_reducible rfl)
      (try simp only [putA, putB, putC, putD])
      refine tkD 11 40 (v := ?_) ?_ hHeld ?_
      rotate_left 1
      (intro W hSw; (try dsimp only at hSw); go_simp; try with_reducible rfl)
      (try simp only [putA, putB, putC, putD])
      (try rw [U.out.2.2.1])
      (try rw [U.out.2.2.2])
      refine wpAnyH_twoD 10 16 (by kernel_rfl) (fun o ho K hK => ?_) (fun o ho K hK => ?_) (by kernel_rfl) (by kernel_rfl)
      · skip
        simp only [List.getElem?_toArray, List.getElem?_cons_succ, List.getElem?_cons_zero, Option.some.injEq] at ho
        subst ho
        go_simp
        refine (X2.out _).mono ?_
        rintro e w1 ⟨rfl, h⟩
        have K1 := Lib.hid (K0.out.step h)
        (try have V1 := Lib.hid (V0.out.below h V0.out.lt))
        go_wp2_with fail
        refine hK.out _ _ (ar_sv K1.out) ?_
        clear hK K hHeld
        intro hHeld
        clear h K0
        (try clear V0)
        refine wpAnyH_twoD 12 16 (by kernel_rfl) (fun o ho K hK => ?_) (fun o ho K hK => ?_) (by kernel_rfl) (by kernel_rfl)
        · skip
          simp only [List.getElem?_toArray, List.getElem?_cons_succ, List.getElem?_cons_zero, Option.some.injEq] at ho
          subst ho
          go_simp
          refine (X4.out _).mono ?_
          rintro e w2 ⟨rfl, h⟩
          have K2 := Lib.hid (K1.out.step h)
          (try have V2 := Lib.hid (V1.out.below h V1.out.lt))
          go_wp2_with fail
          refine hK.out _ _ (ar_sv K2.out) ?_
          clear hK K hHeld
          intro hHeld
          clear h K1
          (try clear V1)
          refine tkD 13 28 (v := ?_) ?_ hHeld ?_
          rotate_left 1
          (intro W hSw; (try dsimp only at hSw); go_simp; try with_reducible rfl)
          (try simp only [putA, putB, putC, putD])
          refine tkD 14 42 (v := ?_) ?_ hHeld ?_
          rotate_left 1
          (intro W hSw; (try dsimp only at hSw); go_simp; try with_reducible rfl)
          (try simp only [putA, putB, putC, putD])
          refine tkD 15 43 (v := ?_) ?_ hHeld ?_
          rotate_left 1
          (intro W hSw; (try dsimp only at hSw); go_simp; try with_reducible rfl)
          (try simp only [putA, putB, putC, putD])
          refine wpAnyH_onlyD 16 (by kernel_rfl) (fun o ho K hK => ?_) (by kernel_rfl)
          simp only [List.getElem?_toArray, List.getElem?_cons_succ, List.getElem?_cons_zero, Option.some.injEq] at ho
          subst ho
          go_simp
          refine hK.out _ _ (ar_sv (K2.out.alloc _)) ?_
          clear hK K hHeld
          intro hHeld
          have K3 := Lib.hid (K2.out.alloc (.cells #[.bool false, .int .u64 0, .int .u64 0, .int .u64 0, .int .u64 0] 90))
          have V3 := Lib.hid (BW.new w2 w2.heap.size [.bool false, .int .u64 0, .int .u64 0, .int .u64 0, .int .u64 0] 90 rfl)
          have hne := ar_ne K2.out
          have hr4 : w.heap.size + 1 + 1 + 1 < w2.heap.size := (ar_r K2.out).lt
          have hz4 : w.heap.size ≤ w2.heap.size := K2.out.l.size
          clear K2
          generalize w2.alloc (.cells #[.bool false, .int .u64 0, .int .u64 0, .int .u64 0, .int .u64 0] 90) = wa at *
          generalize w2.heap.size = n4 at *
          have v0 := V3.out.c 0 _ rfl
          have v1 := V3.out.c 1 _ rfl
          have v2 := V3.out.c 2 _ rfl
          have v3 := V3.out.c 3 _ rfl
          have v4 := V3.out.c 4 _ rfl
          have vf := V3.out.f
          refine wpAnyH_onlyD 17 (by kernel_rfl) (fun o ho K hK => ?_) (by kernel_rfl)
          simp only [List.getElem?_toArray, List.getElem?_cons_succ, List.getElem?_cons_zero, Option.some.injEq] at ho
          subst ho
          go_simp
          refine hK.out _ _ (ar_sv (K3.out.far5 (by omega) hne _ _ _ _ _)) ?_
          clear hK K hHeld
          intro hHeld
          refine tkD 18 9 (v := ?_) ?_ hHeld ?_
          rotate_left 1
          (intro W hSw; (try dsimp only at hSw); go_simp; try with_reducible rfl)
          (try simp only [putA, putB, putC, putD])
          refine wpAnyH_done (by kernel_rfl) ?_ _
          go_wp2_with fail
          go_meet
          exact ⟨_, rfl, V3.out.put5 _ _ _ _ _, (ar_r K3.out).far5 (by omega) _ _ _ _ _, below_put5 K3.out.l (by omega) _ _ _ _ _⟩
        · skip
          simp only [List.getElem?_toArray, List.getElem?_cons_succ, List.getElem?_cons_zero, Option.some.injEq] at ho
          subst ho
          go_simp
          refine hK.out _ _ (ar_sv (K1.out.alloc _)) ?_
          clear hK K hHeld
          intro hHeld
          have K2 := Lib.hid (K1.out.alloc (.cells #[.bool false, .int .u64 0, .int .u64 0, .int .u64 0, .int .u64 0] 90))
          have V2 := Lib.hid (BW.new w1 w1.heap.size [.bool false, .int .u64 0, .int .u64 0, .int .u64 0, .int .u64 0] 90 rfl)
          have hne := ar_ne K1.out
          have hr4 : w.heap.size + 1 + 1 + 1 < w1.heap.size := (ar_r K1.out).lt
          have hz4 : w.heap.size ≤ w1.heap.size := K1.out.l.size
          clear K1
          generalize w1.alloc (.cells #[.bool false, .int .u64 0, .int .u64 0, .int .u64 0, .int .u64 0] 90) = wa at *
          generalize w1.heap.size = n4 at *
          refine onlD 12 (fun K hK => ?_)
          go_simp
          refine (X4.out _).mono ?_
          rintro e w3 ⟨rfl, h⟩
          have K3 := Lib.hid (K2.out.step h)
          (try have V3 := Lib.hid (V2.out.below h V2.out.lt))
          go_wp2_with fail
          refine hK.out _ _ (ar_sv K3.out) ?_
          clear hK K hHeld
          intro hHeld
          clear h K2
          (try clear V2)
          refine tkD 13 28 (v := ?_) ?_ hHeld ?_
          rotate_left 1
          (intro W hSw; (try dsimp only at hSw); go_simp; try with_reducible rfl)
          (try simp only [putA, putB, putC, putD])
          refine tkD 14 42 (v := ?_) ?_ hHeld ?_
          rotate_left 1
          (intro W hSw; (try dsimp only at hSw); go_simp; try with_reducible rfl)
          (try simp only [putA, putB, putC, putD])
          refine tkD 15 43 (v := ?_) ?_ hHeld ?_
          rotate_left 1
          (intro W hSw; (try dsimp only at hSw); go_simp; try with_reducible rfl)
          (try simp only [putA, putB, putC, putD])
          have v0 := V3.out.c 0 _ rfl
          have v1 := V3.out.c 1 _ rfl
          have v2 := V3.out.c 2 _ rfl
          have v3 := V3.out.c 3 _ rfl
          have v4 := V3.out.c 4 _ rfl
          have vf := V3.out.f
          refine wpAnyH_onlyD 17 (by kernel_rfl) (fun o ho K hK => ?_) (by kernel_rfl)
          simp only [List.getElem?_toArray, List.getElem?_cons_succ, List.getElem?_cons_zero, Option.some.injEq] at ho
          subst ho
          go_simp
          refine hK.out _ _ (ar_sv (K3.out.far5 (by omega) hne _ _ _ _ _)) ?_
          clear hK K hHeld
          intro hHeld
          refine tkD 18 9 (v := ?_) ?_ hHeld ?_
          rotate_left 1
          (intro W hSw; (try dsimp only at hSw); go_simp; try with_reducible rfl)
          (try simp only [putA, putB, putC, putD])
          refine wpAnyH_done (by kernel_rfl) ?_ _
          go_wp2_with fail
          go_meet
          exact ⟨_, rfl, V3.out.put5 _ _ _ _ _, (ar_r K3.out).far5 (by omega) _ _ _ _ _, below_put5 K3.out.l (by omega) _ _ _ _ _⟩
      · skip
        simp only [List.getElem?_toArray, List.getElem?_cons_succ, List.getElem?_cons_zero, Option.some.injEq] at ho
        subst ho
        go_simp
        refine hK.out _ _ (ar_sv (K0.out.alloc _)) ?_
        clear hK K hHeld
        intro hHeld
        have K1 := Lib.hid (K0.out.alloc (.cells #[.bool false, .int .u64 0, .int .u64 0, .int .u64 0, .int .u64 0] 90))
        have V1 := Lib.hid (BW.new w0 w0.heap.size [.bool false, .int .u64 0, .int .u64 0, .int .u64 0, .int .u64 0] 90 rfl)
        have hne := ar_ne K0.out
        have hr4 : w.heap.size + 1 + 1 + 1 < w0.heap.size := (ar_r K0.out).lt
        have hz4 : w.heap.size ≤ w0.heap.size := K0.out.l.size
        clear K0
        generalize w0.alloc (.cells #[.bool false, .int .u64 0, .int .u64 0, .int .u64 0, .int .u64 0] 90) = wa at *
        generalize w0.heap.size = n4 at *
        refine onlD 10 (fun K hK => ?_)
        go_simp
        refine (X2.out _).mono ?_
        rintro e w2 ⟨rfl, h⟩
        have K2 := Lib.hid (K1.out.step h)
        (try have V2 := Lib.hid (V1.out.below h V1.out.lt))
        go_wp2_with fail
        refine hK.out _ _ (ar_sv K2.out) ?_
        clear hK K hHeld
        intro hHeld
        clear h K1
        (try clear V1)
        refine onlD 12 (fun K hK => ?_)
        go_simp
        refine (X4.out _).mono ?_
        rintro e w3 ⟨rfl, h⟩
        have K3 := Lib.hid (K2.out.step h)
        (try have V3 := Lib.hid (V2.out.below h V2.out.lt))
        go_wp2_with fail
        refine hK.out _ _ (ar_sv K3.out) ?_
        clear hK K hHeld
        intro hHeld
        clear h K2
        (try clear V2)
        refine tkD 13 28 (v := ?_) ?_ hHeld ?_
        rotate_left 1
        (intro W hSw; (try dsimp only at hSw); go_simp; try with_reducible rfl)
        (try simp only [putA, putB, putC, putD])
        refine tkD 14 42 (v := ?_) ?_ hHeld ?_
        rotate_left 1
        (intro W hSw; (try dsimp only at hSw); go_simp; try with_reducible rfl)
        (try simp only [putA, putB, putC, putD])
        refine tkD 15 43 (v := ?_) ?_ hHeld ?_
        rotate_left 1
        (intro W hSw; (try dsimp only at hSw); go_simp; try with_reducible rfl)
        (try simp only [putA, putB, putC, putD])
        have v0 := V3.out.c 0 _ rfl
        have v1 := V3.out.c 1 _ rfl
        have v2 := V3.out.c 2 _ rfl
        have v3 := V3.out.c 3 _ rfl
        have v4 := V3.out.c 4 _ rfl
        have vf := V3.out.f
        refine wpAnyH_onlyD 17 (by kernel_rfl) (fun o ho K hK => ?_) (by kernel_rfl)
        simp only [List.getElem?_toArray, List.getElem?_cons_succ, List.getElem?_cons_zero, Option.some.injEq] at ho
        subst ho
        go_simp
        refine hK.out _ _ (ar_sv (K3.out.far5 (by omega) hne _ _ _ _ _)) ?_
        clear hK K hHeld
        intro hHeld
        refine tkD 18 9 (v := ?_) ?_ hHeld ?_
        rotate_left 1
        (intro W hSw; (try dsimp only at hSw); go_simp; try with_reducible rfl)
        (try simp only [putA, putB, putC, putD])
        refine wpAnyH_done (by kernel_rfl) ?_ _
        go_wp2_with fail
        go_meet
        exact ⟨_, rfl, V3.out.put5 _ _ _ _ _, (ar_r K3.out).far5 (by omega) _ _ _ _ _, below_put5 K3.out.l (by omega) _ _ _ _ _⟩
    case rest =>
      obtain ⟨n4, rfl, HV, HR, HL⟩ := hcut
      clear K0 X2 X4
      obtain ⟨v0, v1, v2, v3, v4⟩ := HV.h5
      have hv := HV.lt
      have R0 := Lib.hid HR
      have LL := Lib.hid HL
      obtain ⟨r0, r1, r2, r3, r4⟩ := HR.h5
      have rf := HR.f
      clear HV HR HL
      go_wp2
      exact bodyPost_ret (v := .agg #[.bool (decide (A < 0)), .int .u64 (d0 (A.natAbs)), .int .u64 (d1 (A.natAbs)), .int .u64 (d2 (A.natAbs)), .int .u64 (d3 (A.natAbs))]) (by simp [results, Try.results51, go_sem, r0, r1, r2, r3, r4]) rfl ⟨rfl, below_put5 LL.out (by omega) _ _ _ _ _⟩
  | true =>
    simp only [Bool.not_true, Bool.and_false] at X4
    have KN := ar_n K3.out
    have n0 := KN.c 0 _ rfl
    have nf := KN.f
    clear KN
    go_wp2_with fail
    refine wp_gen (S := fun W => St w W (ArL w n1 ax ay bx by' px py false x0 x1 x2 x3)) (St.cons ((ar_n K3.out).put (i := 0) _ _ rfl) ((K3.out.tail).far (by omega) (fun m q e => by have := K3ne m q e; omega) 0 _)) (fun W2 hS => ?_)
    have K0 := Lib.hid hS.drew
    clear hS K3
    go_cut [8] (fun t W => ArCut w A t W)
    case first =>
      refine wp_region_held_drew (S := fun W => (W.cell? ⟨w.heap.size, 0, none⟩ = some (.int .i64 ax) ∧ W.cell? ⟨w.heap.size, 1, none⟩ = some (.int .i64 ay)) ∧ (W.cell? ⟨w.heap.size + 1, 0, none⟩ = some (.int .i64 bx) ∧ W.cell? ⟨w.heap.size + 1, 1, none⟩ = some (.int .i64 by')) ∧ (W.cell? ⟨w.heap.size + 1 + 1, 0, none⟩ = some (.int .i64 px) ∧ W.cell? ⟨w.heap.size + 1 + 1, 1, none⟩ = some (.int .i64 py)) ∧ (W.cell? ⟨n1, 0, none⟩ = some (.bool false) ∧ W.cell? ⟨n1, 1, none⟩ = some (.int .u64 x0) ∧ W.cell? ⟨n1, 2, none⟩ = some (.int .u64 x1) ∧ W.cell? ⟨n1, 3, none⟩ = some (.int .u64 x2) ∧ W.cell? ⟨n1, 4, none⟩ = some (.int .u64 x3))) (by kernel_rfl) (ar_sv K0.out) (fun hHeld => ?_)
      generalize W2.drew = w0 at *
      refine tkD 0 29 (v := ?_) ?_ hHeld ?_
      rotate_left 1
      (intro W hSw; (try dsimp only at hSw); go_simp; try with_reducible rfl)
      (try simp only [putA, putB, putC, putD])
      refine tkD 1 30 (v := ?_) ?_ hHeld ?_
      rotate_left 1
      (intro W hSw; (try dsimp only at hSw); go_simp; try with_reducible rfl)
      (try simp only [putA, putB, putC, putD])
      refine tkD 2 31 (v := ?_) ?_ hHeld ?_
      rotate_left 1
      (intro W hSw; (try dsimp only at hSw); go_simp; try with_reducible rfl)
      (try simp only [putA, putB, putC, putD])
      refine tkD 3 32 (v := ?_) ?_ hHeld ?_
      rotate_left 1
      (intro W hSw; (try dsimp only at hSw); go_simp; try with_reducible rfl)
      (try simp only [putA, putB, putC, putD])
      refine tkD 4 33 (v := ?_) ?_ hHeld ?_
      rotate_left 1
      (intro W hSw; (try dsimp only at hSw); go_simp; try with_reducible rfl)
      (try simp only [putA, putB, putC, putD])
      refine tkD 5 34 (v := ?_) ?_ hHeld ?_
      rotate_left 1
      (intro W hSw; (try dsimp only at hSw); go_simp; try with_reducible rfl)
      (try simp only [putA, putB, putC, putD])
      refine tkD 6 35 (v := ?_) ?_ hHeld ?_
      rotate_left 1
      (intro W hSw; (try dsimp only at hSw); go_simp; try with_reducible rfl)
      (try simp only [putA, putB, putC, putD])
      refine tkD 7 36 (v := ?_) ?_ hHeld ?_
      rotate_left 1
      (intro W hSw; (try dsimp only at hSw); go_simp; try with_reducible rfl)
      (try simp only [putA, putB, putC, putD])
      refine tkD 8 37 (v := ?_) ?_ hHeld ?_
      rotate_left 1
      (intro W hSw; (try dsimp only at hSw); go_simp; try with_reducible rfl)
      (try simp only [putA, putB, putC, putD])
      refine tkD 9 38 (v := ?_) ?_ hHeld ?_
      rotate_left 1
      (intro W hSw; (try dsimp only at hSw); go_simp; try with_reducible rfl)
      (try simp only [putA, putB, putC, putD])
      refine tkD 11 40 (v := ?_) ?_ hHeld ?_
      rotate_left 1
      (intro W hSw; (try dsimp only at hSw); go_simp; try with_reducible rfl)
      (try simp only [putA, putB, putC, putD])
      (try rw [U.out.2.2.1])
      (try rw [U.out.2.2.2])
      refine wpAnyH_twoD 10 16 (by kernel_rfl) (fun o ho K hK => ?_) (fun o ho K hK => ?_) (by kernel_rfl) (by kernel_rfl)
      · skip
        simp only [List.getElem?_toArray, List.getElem?_cons_succ, List.getElem?_cons_zero, Option.some.injEq] at ho
        subst ho
        go_simp
        refine (X2.out _).mono ?_
        rintro e w1 ⟨rfl, h⟩
        have K1 := Lib.hid (K0.out.step h)
        (try have V1 := Lib.hid (V0.out.below h V0.out.lt))
        go_wp2_with fail
        refine hK.out _ _ (ar_sv K1.out) ?_
        clear hK K hHeld
        intro hHeld
        clear h K0
        (try clear V0)
        refine wpAnyH_twoD 12 16 (by kernel_rfl) (fun o ho K hK => ?_) (fun o ho K hK => ?_) (by kernel_rfl) (by kernel_rfl)
        · skip
          simp only [List.getElem?_toArray, List.getElem?_cons_succ, List.getElem?_cons_zero, Option.some.injEq] at ho
          subst ho
          go_simp
          refine (X4.out _).mono ?_
          rintro e w2 ⟨rfl, h⟩
          have K2 := Lib.hid (K1.out.step h)
          (try have V2 := Lib.hid (V1.out.below h V1.out.lt))
          go_wp2_with fail
          refine hK.out _ _ (ar_sv K2.out) ?_
          clear hK K hHeld
          intro hHeld
          clear h K1
          (try clear V1)
          refine tkD 13 28 (v := ?_) ?_ hHeld ?_
          rotate_left 1
          (intro W hSw; (try dsimp only at hSw); go_simp; try with_reducible rfl)
          (try simp only [putA, putB, putC, putD])
          refine tkD 14 42 (v := ?_) ?_ hHeld ?_
          rotate_left 1
          (intro W hSw; (try dsimp only at hSw); go_simp; try with_reducible rfl)
          (try simp only [putA, putB, putC, putD])
          refine tkD 15 43 (v := ?_) ?_ hHeld ?_
          rotate_left 1
          (intro W hSw; (try dsimp only at hSw); go_simp; try with_reducible rfl)
          (try simp only [putA, putB, putC, putD])
          refine wpAnyH_onlyD 16 (by kernel_rfl) (fun o ho K hK => ?_) (by kernel_rfl)
          simp only [List.getElem?_toArray, List.getElem?_cons_succ, List.getElem?_cons_zero, Option.some.injEq] at ho
          subst ho
          go_simp
          refine hK.out _ _ (ar_sv (K2.out.alloc _)) ?_
          clear hK K hHeld
          intro hHeld
          have K3 := Lib.hid (K2.out.alloc (.cells #[.bool false, .int .u64 0, .int .u64 0, .int .u64 0, .int .u64 0] 90))
          have V3 := Lib.hid (BW.new w2 w2.heap.size [.bool false, .int .u64 0, .int .u64 0, .int .u64 0, .int .u64 0] 90 rfl)
          have hne := ar_ne K2.out
          have hr4 : w.heap.size + 1 + 1 + 1 < w2.heap.size := (ar_r K2.out).lt
          have hz4 : w.heap.size ≤ w2.heap.size := K2.out.l.size
          clear K2
          generalize w2.alloc (.cells #[.bool false, .int .u64 0, .int .u64 0, .int .u64 0, .int .u64 0] 90) = wa at *
          generalize w2.heap.size = n4 at *
          have v0 := V3.out.c 0 _ rfl
          have v1 := V3.out.c 1 _ rfl
          have v2 := V3.out.c 2 _ rfl
          have v3 := V3.out.c 3 _ rfl
          have v4 := V3.out.c 4 _ rfl
          have vf := V3.out.f
          refine wpAnyH_onlyD 17 (by kernel_rfl) (fun o ho K hK => ?_) (by kernel_rfl)
          simp only [List.getElem?_toArray, List.getElem?_cons_succ, List.getElem?_cons_zero, Option.some.injEq] at ho
          subst ho
          go_simp
          refine hK.out _ _ (ar_sv (K3.out.far5 (by omega) hne _ _ _ _ _)) ?_
          clear hK K hHeld
          intro hHeld
          refine tkD 18 9 (v := ?_) ?_ hHeld ?_
          rotate_left 1
          (intro W hSw; (try dsimp only at hSw); go_simp; try with_reducible rfl)
          (try simp only [putA, putB, putC, putD])
          refine wpAnyH_done (by kernel_rfl) ?_ _
          go_wp2_with fail
          go_meet
          exact ⟨_, rfl, V3.out.put5 _ _ _ _ _, (ar_r K3.out).far5 (by omega) _ _ _ _ _, below_put5 K3.out.l (by omega) _ _ _ _ _⟩
        · skip
          simp only [List.getElem?_toArray, List.getElem?_cons_succ, List.getElem?_cons_zero, Option.some.injEq] at ho
          subst ho
          go_simp
          refine hK.out _ _ (ar_sv (K1.out.alloc _)) ?_
          clear hK K hHeld
          intro hHeld
          have K2 := Lib.hid (K1.out.alloc (.cells #[.bool false, .int .u64 0, .int .u64 0, .int .u64 0, .int .u64 0] 90))
          have V2 := Lib.hid (BW.new w1 w1.heap.size [.bool false, .int .u64 0, .int .u64 0, .int .u64 0, .int .u64 0] 90 rfl)
          have hne := ar_ne K1.out
          have hr4 : w.heap.size + 1 + 1 + 1 < w1.heap.size := (ar_r K1.out).lt
          have hz4 : w.heap.size ≤ w1.heap.size := K1.out.l.size
          clear K1
          generalize w1.alloc (.cells #[.bool false, .int .u64 0, .int .u64 0, .int .u64 0, .int .u64 0] 90) = wa at *
          generalize w1.heap.size = n4 at *
          refine onlD 12 (fun K hK => ?_)
          go_simp
          refine (X4.out _).mono ?_
          rintro e w3 ⟨rfl, h⟩
          have K3 := Lib.hid (K2.out.step h)
          (try have V3 := Lib.hid (V2.out.below h V2.out.lt))
          go_wp2_with fail
          refine hK.out _ _ (ar_sv K3.out) ?_
          clear hK K hHeld
          intro hHeld
          clear h K2
          (try clear V2)
          refine tkD 13 28 (v := ?_) ?_ hHeld ?_
          rotate_left 1
          (intro W hSw; (try dsimp only at hSw); go_simp; try with_reducible rfl)
          (try simp only [putA, putB, putC, putD])
          refine tkD 14 42 (v := ?_) ?_ hHeld ?_
          rotate_left 1
          (intro W hSw; (try dsimp only at hSw); go_simp; try with_reducible rfl)
          (try simp only [putA, putB, putC, putD])
          refine tkD 15 43 (v := ?_) ?_ hHeld ?_
          rotate_left 1
          (intro W hSw; (try dsimp only at hSw); go_simp; try with_reducible rfl)
          (try simp only [putA, putB, putC, putD])
          have v0 := V3.out.c 0 _ rfl
          have v1 := V3.out.c 1 _ rfl
          have v2 := V3.out.c 2 _ rfl
          have v3 := V3.out.c 3 _ rfl
          have v4 := V3.out.c 4 _ rfl
          have vf := V3.out.f
          refine wpAnyH_onlyD 17 (by kernel_rfl) (fun o ho K hK => ?_) (by kernel_rfl)
          simp only [List.getElem?_toArray, List.getElem?_cons_succ, List.getElem?_cons_zero, Option.some.injEq] at ho
          subst ho
          go_simp
          refine hK.out _ _ (ar_sv (K3.out.far5 (by omega) hne _ _ _ _ _)) ?_
          clear hK K hHeld
          intro hHeld
          refine tkD 18 9 (v := ?_) ?_ hHeld ?_
          rotate_left 1
          (intro W hSw; (try dsimp only at hSw); go_simp; try with_reducible rfl)
          (try simp only [putA, putB, putC, putD])
          refine wpAnyH_done (by kernel_rfl) ?_ _
          go_wp2_with fail
          go_meet
          exact ⟨_, rfl, V3.out.put5 _ _ _ _ _, (ar_r K3.out).far5 (by omega) _ _ _ _ _, below_put5 K3.out.l (by omega) _ _ _ _ _⟩
      · skip
        simp only [List.getElem?_toArray, List.getElem?_cons_succ, List.getElem?_cons_zero, Option.some.injEq] at ho
        subst ho
        go_simp
        refine hK.out _ _ (ar_sv (K0.out.alloc _)) ?_
        clear hK K hHeld
        intro hHeld
        have K1 := Lib.hid (K0.out.alloc (.cells #[.bool false, .int .u64 0, .int .u64 0, .int .u64 0, .int .u64 0] 90))
        have V1 := Lib.hid (BW.new w0 w0.heap.size [.bool false, .int .u64 0, .int .u64 0, .int .u64 0, .int .u64 0] 90 rfl)
        have hne := ar_ne K0.out
        have hr4 : w.heap.size + 1 + 1 + 1 < w0.heap.size := (ar_r K0.out).lt
        have hz4 : w.heap.size ≤ w0.heap.size := K0.out.l.size
        clear K0
        generalize w0.alloc (.cells #[.bool false, .int .u64 0, .int .u64 0, .int .u64 0, .int .u64 0] 90) = wa at *
        generalize w0.heap.size = n4 at *
        refine onlD 10 (fun K hK => ?_)
        go_simp
        refine (X2.out _).mono ?_
        rintro e w2 ⟨rfl, h⟩
        have K2 := Lib.hid (K1.out.step h)
        (try have V2 := Lib.hid (V1.out.below h V1.out.lt))
        go_wp2_with fail
        refine hK.out _ _ (ar_sv K2.out) ?_
        clear hK K hHeld
        intro hHeld
        clear h K1
        (try clear V1)
        refine onlD 12 (fun K hK => ?_)
        go_simp
        refine (X4.out _).mono ?_
        rintro e w3 ⟨rfl, h⟩
        have K3 := Lib.hid (K2.out.step h)
        (try have V3 := Lib.hid (V2.out.below h V2.out.lt))
        go_wp2_with fail
        refine hK.out _ _ (ar_sv K3.out) ?_
        clear hK K hHeld
        intro hHeld
        clear h K2
        (try clear V2)
        refine tkD 13 28 (v := ?_) ?_ hHeld ?_
        rotate_left 1
        (intro W hSw; (try dsimp only at hSw); go_simp; try with_reducible rfl)
        (try simp only [putA, putB, putC, putD])
        refine tkD 14 42 (v := ?_) ?_ hHeld ?_
        rotate_left 1
        (intro W hSw; (try dsimp only at hSw); go_simp; try with_reducible rfl)
        (try simp only [putA, putB, putC, putD])
        refine tkD 15 43 (v := ?_) ?_ hHeld ?_
        rotate_left 1
        (intro W hSw; (try dsimp only at hSw); go_simp; try with_reducible rfl)
        (try simp only [putA, putB, putC, putD])
        have v0 := V3.out.c 0 _ rfl
        have v1 := V3.out.c 1 _ rfl
        have v2 := V3.out.c 2 _ rfl
        have v3 := V3.out.c 3 _ rfl
        have v4 := V3.out.c 4 _ rfl
        have vf := V3.out.f
        refine wpAnyH_onlyD 17 (by kernel_rfl) (fun o ho K hK => ?_) (by kernel_rfl)
        simp only [List.getElem?_toArray, List.getElem?_cons_succ, List.getElem?_cons_zero, Option.some.injEq] at ho
        subst ho
        go_simp
        refine hK.out _ _ (ar_sv (K3.out.far5 (by omega) hne _ _ _ _ _)) ?_
        clear hK K hHeld
        intro hHeld
        refine tkD 18 9 (v := ?_) ?_ hHeld ?_
        rotate_left 1
        (intro W hSw; (try dsimp only at hSw); go_simp; try with_reducible rfl)
        (try simp only [putA, putB, putC, putD])
        refine wpAnyH_done (by kernel_rfl) ?_ _
        go_wp2_with fail
        go_meet
        exact ⟨_, rfl, V3.out.put5 _ _ _ _ _, (ar_r K3.out).far5 (by omega) _ _ _ _ _, below_put5 K3.out.l (by omega) _ _ _ _ _⟩
    case rest =>
      obtain ⟨n4, rfl, HV, HR, HL⟩ := hcut
      clear K0 X2 X4
      obtain ⟨v0, v1, v2, v3, v4⟩ := HV.h5
      have hv := HV.lt
      have R0 := Lib.hid HR
      have LL := Lib.hid HL
      obtain ⟨r0, r1, r2, r3, r4⟩ := HR.h5
      have rf := HR.f
      clear HV HR HL
      go_wp2
      exact bodyPost_ret (v := .agg #[.bool (decide (A < 0)), .int .u64 (d0 (A.natAbs)), .int .u64 (d1 (A.natAbs)), .int .u64 (d2 (A.natAbs)), .int .u64 (d3 (A.natAbs))]) (by simp [results, Try.results51, go_sem, r0, r1, r2, r3, r4]) rfl ⟨rfl, below_put5 LL.out (by omega) _ _ _ _ _⟩
end Go.Proofs.Ytllkhgcokbpggaa
namespace Go.Proofs.Ytllkhgcokbpggaa
open Go.RowKit
set_option linter.unusedVariables false
set_option linter.unusedSimpArgs false

/-- the inner product of the ways from a to b and from a to p -/
def dotP (a b p : Pt) : Int := (b.x - a.x) * (p.x - a.x) + (b.y - a.y) * (p.y - a.y)
theorem mul_49 {x y : Int} (x0 : -562949953421312 ≤ x) (x1 : x ≤ 562949953421312) (y0 : -562949953421312 ≤ y) (y1 : y ≤ 562949953421312) : -316912650057057350374175801344 ≤ x * y ∧ x * y ≤ 316912650057057350374175801344 := by
  have h1 : 0 ≤ (562949953421312 - x) * (562949953421312 + y) := Int.mul_nonneg (by omega) (by omega)
  have h2 : 0 ≤ (562949953421312 + x) * (562949953421312 - y) := Int.mul_nonneg (by omega) (by omega)
  have h3 : 0 ≤ (562949953421312 - x) * (562949953421312 - y) := Int.mul_nonneg (by omega) (by omega)
  have h4 : 0 ≤ (562949953421312 + x) * (562949953421312 + y) := Int.mul_nonneg (by omega) (by omega)
  have e1 : (562949953421312 - x) * (562949953421312 + y) = 316912650057057350374175801344 + 562949953421312 * y - 562949953421312 * x - x * y := by grind
  have e2 : (562949953421312 + x) * (562949953421312 - y) = 316912650057057350374175801344 - 562949953421312 * y + 562949953421312 * x - x * y := by grind
  have e3 : (562949953421312 - x) * (562949953421312 - y) = 316912650057057350374175801344 - 562949953421312 * y - 562949953421312 * x + x * y := by grind
  have e4 : (562949953421312 + x) * (562949953421312 + y) = 316912650057057350374175801344 + 562949953421312 * y + 562949953421312 * x + x * y := by grind
  omega
theorem dotP_fit {ax ay bx by' px py : Int} (h1 : Rg ax) (h2 : Rg ay) (h3 : Rg bx) (h4 : Rg by') (h5 : Rg px) (h6 : Rg py) :
    In128 ((bx - ax) * (px - ax)) ∧ In128 ((by' - ay) * (py - ay)) ∧ clipW ((bx - ax) * (px - ax) + (by' - ay) * (py - ay)) = dotP ⟨ax, ay⟩ ⟨bx, by'⟩ ⟨px, py⟩ ∧ In128 (dotP ⟨ax, ay⟩ ⟨bx, by'⟩ ⟨px, py⟩) := by
  unfold Rg at *
  have q1 := mul_49 (x := bx - ax) (y := px - ax) (by omega) (by omega) (by omega) (by omega)
  have q2 := mul_49 (x := by' - ay) (y := py - ay) (by omega) (by omega) (by omega) (by omega)
  unfold dotP
  simp only []
  generalize (bx - ax) * (px - ax) = k at *
  generalize (by' - ay) * (py - ay) = m at *
  have i1 : In128 (k + m) := by unfold In128; omega
  refine ⟨by unfold In128; omega, by unfold In128; omega, ?_, by unfold In128; omega⟩
  unfold clipW
  rw [if_pos i1]
/-- the blocks of dot -/
def DtL (w : World) (ax ay bx by' px py : Int) : List (Nat × List Value) := [(w.heap.size, [.int .i64 ax, .int .i64 ay]), (w.heap.size + 1, [.int .i64 bx, .int .i64 by']), (w.heap.size + 1 + 1, [.int .i64 px, .int .i64 py]), (w.heap.size + 1 + 1 + 1, [.bool false, .int .u64 0, .int .u64 0, .int .u64 0, .int .u64 0])]
theorem dt_r {w W : World} {ax ay bx by' px py : Int} (k : St w W (DtL w ax ay bx by' px py)) : BW W (w.heap.size + 1 + 1 + 1) [.bool false, .int .u64 0, .int .u64 0, .int .u64 0, .int .u64 0] := k.b _ _ (by unfold DtL; simp)
theorem dt_sv {w W : World} {ax ay bx by' px py : Int} (k : St w W (DtL w ax ay bx by' px py)) : (W.cell? ⟨w.heap.size, 0, none⟩ = some (.int .i64 ax) ∧ W.cell? ⟨w.heap.size, 1, none⟩ = some (.int .i64 ay)) ∧ (W.cell? ⟨w.heap.size + 1, 0, none⟩ = some (.int .i64 bx) ∧ W.cell? ⟨w.heap.size + 1, 1, none⟩ = some (.int .i64 by')) ∧ (W.cell? ⟨w.heap.size + 1 + 1, 0, none⟩ = some (.int .i64 px) ∧ W.cell? ⟨w.heap.size + 1 + 1, 1, none⟩ = some (.int .i64 py)) :=
  ⟨(k.b _ _ (by unfold DtL; simp)).h2', (k.b _ _ (by unfold DtL; simp)).h2', (k.b _ _ (by unfold DtL; simp)).h2'⟩
set_option maxRecDepth 100000 in
set_option maxHeartbeats 8000000 in
theorem rPDot_any (ax ay bx by' px py A : Int) (w : World) (h1 : Rg ax) (h2 : Rg ay) (h3 : Rg bx) (h4 : Rg by') (h5 : Rg px) (h6 : Rg py) (hA : dotP ⟨ax, ay⟩ ⟨bx, by'⟩ ⟨px, py⟩ = A) :
    Calls Try.prog 61 #[.agg #[.int .i64 ax, .int .i64 ay], .agg #[.int .i64 bx, .int .i64 by'], .agg #[.int .i64 px, .int .i64 py]] w fun e w' => e = .returned (.agg #[.bool (decide (A < 0)), .int .u64 (d0 (A.natAbs)), .int .u64 (d1 (A.natAbs)), .int .u64 (d2 (A.natAbs)), .int .u64 (d3 (A.natAbs))]) ∧ Below w.heap.size w w' := by
  obtain ⟨f1, f2, f4, f5⟩ := dotP_fit h1 h2 h3 h4 h5 h6
  rw [hA] at f4 f5
  have u1 : IntKind.i64.wrap (bx - ax) = bx - ax := IntWalk.i64_in _ (by unfold Rg at *; omega)
  have u2 : IntKind.i64.wrap (px - ax) = px - ax := IntWalk.i64_in _ (by unfold Rg at *; omega)
  have u3 : IntKind.i64.wrap (by' - ay) = by' - ay := IntWalk.i64_in _ (by unfold Rg at *; omega)
  have u4 : IntKind.i64.wrap (py - ay) = py - ay := IntWalk.i64_in _ (by unfold Rg at *; omega)
  have X1 := Lib.hid (fun (W : World) => rMul_any (bx - ax) (px - ax) W (by unfold Rg at *; omega) (by unfold Rg at *; omega) (by unfold Rg at *; omega) (by unfold Rg at *; omega))
  have X2 := Lib.hid (fun (W : World) => rMul_any (by' - ay) (py - ay) W (by unfold Rg at *; omega) (by unfold Rg at *; omega) (by unfold Rg at *; omega) (by unfold Rg at *; omega))
  have X4 := Lib.hid (fun (W : World) => rAdd_any ((bx - ax) * (px - ax)) ((by' - ay) * (py - ay)) W f1 f2)
  rw [f4] at X4
  generalize (bx - ax) * (px - ax) = k at *
  generalize (by' - ay) * (py - ay) = m at *
  clear f1 f2 f4 f5 hA
  generalize fitW (k + m) = fw at *
  have U := Lib.hid (And.intro u1 (And.intro u2 (And.intro u3 u4)))
  clear u1 u2 u3 u4 h1 h2 h3 h4 h5 h6
  go_enter Try.func61, Try.ntmps61
  go_wp2_with fail
  refine wp_gen (S := fun W => St w W (DtL w ax ay bx by' px py))
    (St.cons ((((BW.new w w.heap.size [_, _] _ rfl).alloc _).alloc _).alloc _) (St.cons (((BW.new _ _ [_, _] _ (by simp)).alloc _).alloc _) (St.cons ((BW.new _ _ [_, _] _ (by simp)).alloc _) (St.cons (BW.new _ _ [_, _, _, _, _] _ (by simp)) (St.nil (by repeat (first | exact Below.refl _ _ | assumption | refine Below.setCell ?_ (by first | omega | (simp; done) | (simp; omega)) _ | refine Below.alloc ?_ (by first | omega | (simp; done) | (simp; omega)) _ | refine below_drewN ?_ _ | refine Below.drew ?_ | refine Below.trans ?_ (Below.mono (by assumption) (by first | omega | (simp; done) | (simp; omega)))))))))) (fun W0 hS => ?_)
  have K0 := Lib.hid hS.drew
  clear hS
  go_cut [7] (fun t W => ArCut w A t W)
  case first =>
    refine wp_region_held_drew (S := fun W => (W.cell? ⟨w.heap.size, 0, none⟩ = some (.int .i64 ax) ∧ W.cell? ⟨w.heap.size, 1, none⟩ = some (.int .i64 ay)) ∧ (W.cell? ⟨w.heap.size + 1, 0, none⟩ = some (.int .i64 bx) ∧ W.cell? ⟨w.heap.size + 1, 1, none⟩ = some (.int .i64 by')) ∧ (W.cell? ⟨w.heap.size + 1 + 1, 0, none⟩ = some (.int .i64 px) ∧ W.cell? ⟨w.heap.size + 1 + 1, 1, none⟩ = some (.int .i64 py))) (by kernel_rfl) (dt_sv K0.out) (fun hHeld => ?_)
    generalize W0.drew = w0 at *
    refine tkD 0 10 (v := ?_) ?_ hHeld ?_
    rotate_left 1
    (intro W hSw; (try dsimp only at hSw); go_simp; try with_reducible rfl)
    (try simp only [putA, putB, putC, putD])
    refine tkD 1 11 (v := ?_) ?_ hHeld ?_
    rotate_left 1
    (intro W hSw; (try dsimp only at hSw); go_simp; try with_reducible rfl)
    (try simp only [putA, putB, putC, putD])
    refine tkD 2 12 (v := ?_) ?_ hHeld ?_
    rotate_left 1
    (intro W hSw; (try dsimp only at hSw); go_simp; try with_reducible rfl)
    (try simp only [putA, putB, putC, putD])
    refine tkD 3 13 (v := ?_) ?_ hHeld ?_
    rotate_left 1
    (intro W hSw; (try dsimp only at hSw); go_simp; try with_reducible rfl)
    (try simp only [putA, putB, putC, putD])
    refine tkD 4 14 (v := ?_) ?_ hHeld ?_
    rotate_left 1
    (intro W hSw; (try dsimp only at hSw); go_simp; try with_reducible rfl)
    (try simp only [putA, putB, putC, putD])
    refine tkD 5 15 (v := ?_) ?_ hHeld ?_
    rotate_left 1
    (intro W hSw; (try dsimp only at hSw); go_simp; try with_reducible rfl)
    (try simp only [putA, putB, putC, putD])
    refine tkD 6 16 (v := ?_) ?_ hHeld ?_
    rotate_left 1
    (intro W hSw; (try dsimp only at hSw); go_simp; try with_reducible rfl)
    (try simp only [putA, putB, putC, putD])
    refine tkD 7 17 (v := ?_) ?_ hHeld ?_
    rotate_left 1
    (intro W hSw; (try dsimp only at hSw); go_simp; try with_reducible rfl)
    (try simp only [putA, putB, putC, putD])
    refine tkD 8 18 (v := ?_) ?_ hHeld ?_
    rotate_left 1
    (intro W hSw; (try dsimp only at hSw); go_simp; try with_reducible rfl)
    (try simp only [putA, putB, putC, putD])
    refine tkD 9 19 (v := ?_) ?_ hHeld ?_
    rotate_left 1
    (intro W hSw; (try dsimp only at hSw); go_simp; try with_reducible rfl)
    (try simp only [putA, putB, putC, putD])
    refine tkD 11 21 (v := ?_) ?_ hHeld ?_
    rotate_left 1
    (intro W hSw; (try dsimp only at hSw); go_simp; try with_reducible rfl)
    (try simp only [putA, putB, putC, putD])
    refine tkD 12 22 (v := ?_) ?_ hHeld ?_
    rotate_left 1
    (intro W hSw; (try dsimp only at hSw); go_simp; try with_reducible rfl)
    (try simp only [putA, putB, putC, putD])
    refine tkD 13 23 (v := ?_) ?_ hHeld ?_
    rotate_left 1
    (intro W hSw; (try dsimp only at hSw); go_simp; try with_reducible rfl)
    (try simp only [putA, putB, putC, putD])
    refine tkD 14 24 (v := ?_) ?_ hHeld ?_
    rotate_left 1
    (intro W hSw; (try dsimp only at hSw); go_simp; try with_reducible rfl)
    (try simp only [putA, putB, putC, putD])
    refine tkD 15 25 (v := ?_) ?_ hHeld ?_
    rotate_left 1
    (intro W hSw; (try dsimp only at hSw); go_simp; try with_reducible rfl)
    (try simp only [putA, putB, putC, putD])
    refine tkD 16 26 (v := ?_) ?_ hHeld ?_
    rotate_left 1
    (intro W hSw; (try dsimp only at hSw); go_simp; try with_reducible rfl)
    (try simp only [putA, putB, putC, putD])
    refine tkD 17 27 (v := ?_) ?_ hHeld ?_
    rotate_left 1
    (intro W hSw; (try dsimp only at hSw); go_simp; try with_reducible rfl)
    (try simp only [putA, putB, putC, putD])
    refine tkD 18 28 (v := ?_) ?_ hHeld ?_
    rotate_left 1
    (intro W hSw; (try dsimp only at hSw); go_simp; try with_reducible rfl)
    (try simp only [putA, putB, putC, putD])
    refine tkD 19 29 (v := ?_) ?_ hHeld ?_
    rotate_left 1
    (intro W hSw; (try dsimp only at hSw); go_simp; try with_reducible rfl)
    (try simp only [putA, putB, putC, putD])
    refine tkD 20 30 (v := ?_) ?_ hHeld ?_
    rotate_left 1
    (intro W hSw; (try dsimp only at hSw); go_simp; try with_reducible rfl)
    (try simp only [putA, putB, putC, putD])
    rw [U.out.1, U.out.2.1, U.out.2.2.1, U.out.2.2.2]
    refine wpAnyH_twoD 10 26 (by kernel_rfl) (fun o ho K hK => ?_) (fun o ho K hK => ?_) (by kernel_rfl) (by kernel_rfl)
    · skip
      simp only [List.getElem?_toArray, List.getElem?_cons_succ, List.getElem?_cons_zero, Option.some.injEq] at ho
      subst ho
      go_simp
      refine (X1.out _).mono ?_
      rintro e w1 ⟨rfl, h⟩
      have K1 := Lib.hid (K0.out.step h)
      (try have V1 := Lib.hid (V0.out.below h V0.out.lt))
      go_wp2_with fail
      refine hK.out _ _ (dt_sv K1.out) ?_
      clear hK K hHeld
      intro hHeld
      clear h K0
      (try clear V0)
      refine wpAnyH_twoD 21 26 (by kernel_rfl) (fun o ho K hK => ?_) (fun o ho K hK => ?_) (by kernel_rfl) (by kernel_rfl)
      · skip
        simp only [List.getElem?_toArray, List.getElem?_cons_succ, List.getElem?_cons_zero, Option.some.injEq] at ho
        subst ho
        go_simp
        refine (X2.out _).mono ?_
        rintro e w2 ⟨rfl, h⟩
        have K2 := Lib.hid (K1.out.step h)
        (try have V2 := Lib.hid (V1.out.below h V1.out.lt))
        go_wp2_with fail
        refine hK.out _ _ (dt_sv K2.out) ?_
        clear hK K hHeld
        intro hHeld
        clear h K1
        (try clear V1)
        refine wpAnyH_twoD 22 26 (by kernel_rfl) (fun o ho K hK => ?_) (fun o ho K hK => ?_) (by kernel_rfl) (by kernel_rfl)
        · skip
          simp only [List.getElem?_toArray, List.getElem?_cons_succ, List.getElem?_cons_zero, Option.some.injEq] at ho
          subst ho
          go_simp
          refine (X4.out _).mono ?_
          rintro e w3 ⟨rfl, h⟩
          have K3 := Lib.hid (K2.out.step h)
          (try have V3 := Lib.hid (V2.out.below h V2.out.lt))
          go_wp2_with fail
          refine hK.out _ _ (dt_sv K3.out) ?_
          clear hK K hHeld
          intro hHeld
          clear h K2
          (try clear V2)
          refine tkD 23 9 (v := ?_) ?_ hHeld ?_
          rotate_left 1
          (intro W hSw; (try dsimp only at hSw); go_simp; try with_reducible rfl)
          (try simp only [putA, putB, putC, putD])
          refine tkD 24 33 (v := ?_) ?_ hHeld ?_
          rotate_left 1
          (intro W hSw; (try dsimp only at hSw); go_simp; try with_reducible rfl)
          (try simp only [putA, putB, putC, putD])
          refine tkD 25 34 (v := ?_) ?_ hHeld ?_
          rotate_left 1
          (intro W hSw; (try dsimp only at hSw); go_simp; try with_reducible rfl)
          (try simp only [putA, putB, putC, putD])
          refine wpAnyH_onlyD 26 (by kernel_rfl) (fun o ho K hK => ?_) (by kernel_rfl)
          simp only [List.getElem?_toArray, List.getElem?_cons_succ, List.getElem?_cons_zero, Option.some.injEq] at ho
          subst ho
          go_simp
          refine hK.out _ _ (dt_sv (K3.out.alloc _)) ?_
          clear hK K hHeld
          intro hHeld
          have K4 := Lib.hid (K3.out.alloc (.cells #[.bool false, .int .u64 0, .int .u64 0, .int .u64 0, .int .u64 0] 90))
          have V4 := Lib.hid (BW.new w3 w3.heap.size [.bool false, .int .u64 0, .int .u64 0, .int .u64 0, .int .u64 0] 90 rfl)
          have hne := ar_ne K3.out
          have hr4 : w.heap.size + 1 + 1 + 1 < w3.heap.size := (dt_r K3.out).lt
          have hz4 : w.heap.size ≤ w3.heap.size := K3.out.l.size
          clear K3
          generalize w3.alloc (.cells #[.bool false, .int .u64 0, .int .u64 0, .int .u64 0, .int .u64 0] 90) = wa at *
          generalize w3.heap.size = n4 at *
          have v0 := V4.out.c 0 _ rfl
          have v1 := V4.out.c 1 _ rfl
          have v2 := V4.out.c 2 _ rfl
          have v3 := V4.out.c 3 _ rfl
          have v4 := V4.out.c 4 _ rfl
          have vf := V4.out.f
          refine wpAnyH_onlyD 27 (by kernel_rfl) (fun o ho K hK => ?_) (by kernel_rfl)
          simp only [List.getElem?_toArray, List.getElem?_cons_succ, List.getElem?_cons_zero, Option.some.injEq] at ho
          subst ho
          go_simp
          refine hK.out _ _ (dt_sv (K4.out.far5 (by omega) hne _ _ _ _ _)) ?_
          clear hK K hHeld
          intro hHeld
          refine tkD 28 8 (v := ?_) ?_ hHeld ?_
          rotate_left 1
          (intro W hSw; (try dsimp only at hSw); go_simp; try with_reducible rfl)
          (try simp only [putA, putB, putC, putD])
          refine wpAnyH_done (by kernel_rfl) ?_ _
          go_wp2_with fail
          go_meet
          exact ⟨_, rfl, V4.out.put5 _ _ _ _ _, (dt_r K4.out).far5 (by omega) _ _ _ _ _, below_put5 K4.out.l (by omega) _ _ _ _ _⟩
        · skip
          simp only [List.getElem?_toArray, List.getElem?_cons_succ, List.getElem?_cons_zero, Option.some.injEq] at ho
          subst ho
          go_simp
          refine hK.out _ _ (dt_sv (K2.out.alloc _)) ?_
          clear hK K hHeld
          intro hHeld
          have K3 := Lib.hid (K2.out.alloc (.cells #[.bool false, .int .u64 0, .int .u64 0, .int .u64 0, .int .u64 0] 90))
          have V3 := Lib.hid (BW.new w2 w2.heap.size [.bool false, .int .u64 0, .int .u64 0, .int .u64 0, .int .u64 0] 90 rfl)
          have hne := ar_ne K2.out
          have hr4 : w.heap.size + 1 + 1 + 1 < w2.heap.size := (dt_r K2.out).lt
          have hz4 : w.heap.size ≤ w2.heap.size := K2.out.l.size
          clear K2
          generalize w2.alloc (.cells #[.bool false, .int .u64 0, .int .u64 0, .int .u64 0, .int .u64 0] 90) = wa at *
          generalize w2.heap.size = n4 at *
          refine onlD 22 (fun K hK => ?_)
          go_simp
          refine (X4.out _).mono ?_
          rintro e w4 ⟨rfl, h⟩
          have K4 := Lib.hid (K3.out.step h)
          (try have V4 := Lib.hid (V3.out.below h V3.out.lt))
          go_wp2_with fail
          refine hK.out _ _ (dt_sv K4.out) ?_
          clear hK K hHeld
          intro hHeld
          clear h K3
          (try clear V3)
          refine tkD 23 9 (v := ?_) ?_ hHeld ?_
          rotate_left 1
          (intro W hSw; (try dsimp only at hSw); go_simp; try with_reducible rfl)
          (try simp only [putA, putB, putC, putD])
          refine tkD 24 33 (v := ?_) ?_ hHeld ?_
          rotate_left 1
          (intro W hSw; (try dsimp only at hSw); go_simp; try with_reducible rfl)
          (try simp only [putA, putB, putC, putD])
          refine tkD 25 34 (v := ?_) ?_ hHeld ?_
          rotate_left 1
          (intro W hSw; (try dsimp only at hSw); go_simp; try with_reducible rfl)
          (try simp only [putA, putB, putC, putD])
          have v0 := V4.out.c 0 _ rfl
          have v1 := V4.out.c 1 _ rfl
          have v2 := V4.out.c 2 _ rfl
          have v3 := V4.out.c 3 _ rfl
          have v4 := V4.out.c 4 _ rfl
          have vf := V4.out.f
          refine wpAnyH_onlyD 27 (by kernel_rfl) (fun o ho K hK => ?_) (by kernel_rfl)
          simp only [List.getElem?_toArray, List.getElem?_cons_succ, List.getElem?_cons_zero, Option.some.injEq] at ho
          subst ho
          go_simp
          refine hK.out _ _ (dt_sv (K4.out.far5 (by omega) hne _ _ _ _ _)) ?_
          clear hK K hHeld
          intro hHeld
          refine tkD 28 8 (v := ?_) ?_ hHeld ?_
          rotate_left 1
          (intro W hSw; (try dsimp only at hSw); go_simp; try with_reducible rfl)
          (try simp only [putA, putB, putC, putD])
          refine wpAnyH_done (by kernel_rfl) ?_ _
          go_wp2_with fail
          go_meet
          exact ⟨_, rfl, V4.out.put5 _ _ _ _ _, (dt_r K4.out).far5 (by omega) _ _ _ _ _, below_put5 K4.out.l (by omega) _ _ _ _ _⟩
      · skip
        simp only [List.getElem?_toArray, List.getElem?_cons_succ, List.getElem?_cons_zero, Option.some.injEq] at ho
        subst ho
        go_simp
        refine hK.out _ _ (dt_sv (K1.out.alloc _)) ?_
        clear hK K hHeld
        intro hHeld
        have K2 := Lib.hid (K1.out.alloc (.cells #[.bool false, .int .u64 0, .int .u64 0, .int .u64 0, .int .u64 0] 90))
        have V2 := Lib.hid (BW.new w1 w1.heap.size [.bool false, .int .u64 0, .int .u64 0, .int .u64 0, .int .u64 0] 90 rfl)
        have hne := ar_ne K1.out
        have hr4 : w.heap.size + 1 + 1 + 1 < w1.heap.size := (dt_r K1.out).lt
        have hz4 : w.heap.size ≤ w1.heap.size := K1.out.l.size
        clear K1
        generalize w1.alloc (.cells #[.bool false, .int .u64 0, .int .u64 0, .int .u64 0, .int .u64 0] 90) = wa at *
        generalize w1.heap.size = n4 at *
        refine onlD 21 (fun K hK => ?_)
        go_simp
        refine (X2.out _).mono ?_
        rintro e w3 ⟨rfl, h⟩
        have K3 := Lib.hid (K2.out.step h)
        (try have V3 := Lib.hid (V2.out.below h V2.out.lt))
        go_wp2_with fail
        refine hK.out _ _ (dt_sv K3.out) ?_
        clear hK K hHeld
        intro hHeld
        clear h K2
        (try clear V2)
        refine onlD 22 (fun K hK => ?_)
        go_simp
        refine (X4.out _).mono ?_
        rintro e w4 ⟨rfl, h⟩
        have K4 := Lib.hid (K3.out.step h)
        (try have V4 := Lib.hid (V3.out.below h V3.out.lt))
        go_wp2_with fail
        refine hK.out _ _ (dt_sv K4.out) ?_
        clear hK K hHeld
        intro hHeld
        clear h K3
        (try clear V3)
        refine tkD 23 9 (v := ?_) ?_ hHeld ?_
        rotate_left 1
        (intro W hSw; (try dsimp only at hSw); go_simp; try with_reducible rfl)
        (try simp only [putA, putB, putC, putD])
        refine tkD 24 33 (v := ?_) ?_ hHeld ?_
        rotate_left 1
        (intro W hSw; (try dsimp only at hSw); go_simp; try with_reducible rfl)
        (try simp only [putA, putB, putC, putD])
        refine tkD 25 34 (v := ?_) ?_ hHeld ?_
        rotate_left 1
        (intro W hSw; (try dsimp only at hSw); go_simp; try with_reducible rfl)
        (try simp only [putA, putB, putC, putD])
        have v0 := V4.out.c 0 _ rfl
        have v1 := V4.out.c 1 _ rfl
        have v2 := V4.out.c 2 _ rfl
        have v3 := V4.out.c 3 _ rfl
        have v4 := V4.out.c 4 _ rfl
        have vf := V4.out.f
        refine wpAnyH_onlyD 27 (by kernel_rfl) (fun o ho K hK => ?_) (by kernel_rfl)
        simp only [List.getElem?_toArray, List.getElem?_cons_succ, List.getElem?_cons_zero, Option.some.injEq] at ho
        subst ho
        go_simp
        refine hK.out _ _ (dt_sv (K4.out.far5 (by omega) hne _ _ _ _ _)) ?_
        clear hK K hHeld
        intro hHeld
        refine tkD 28 8 (v := ?_) ?_ hHeld ?_
        rotate_left 1
        (intro W hSw; (try dsimp only at hSw); go_simp; try with_reducible rfl)
        (try simp only [putA, putB, putC, putD])
        refine wpAnyH_done (by kernel_rfl) ?_ _
        go_wp2_with fail
        go_meet
        exact ⟨_, rfl, V4.out.put5 _ _ _ _ _, (dt_r K4.out).far5 (by omega) _ _ _ _ _, below_put5 K4.out.l (by omega) _ _ _ _ _⟩
    · skip
      simp only [List.getElem?_toArray, List.getElem?_cons_succ, List.getElem?_cons_zero, Option.some.injEq] at ho
      subst ho
      go_simp
      refine hK.out _ _ (dt_sv (K0.out.alloc _)) ?_
      clear hK K hHeld
      intro hHeld
      have K1 := Lib.hid (K0.out.alloc (.cells #[.bool false, .int .u64 0, .int .u64 0, .int .u64 0, .int .u64 0] 90))
      have V1 := Lib.hid (BW.new w0 w0.heap.size [.bool false, .int .u64 0, .int .u64 0, .int .u64 0, .int .u64 0] 90 rfl)
      have hne := ar_ne K0.out
      have hr4 : w.heap.size + 1 + 1 + 1 < w0.heap.size := (dt_r K0.out).lt
      have hz4 : w.heap.size ≤ w0.heap.size := K0.out.l.size
      clear K0
      generalize w0.alloc (.cells #[.bool false, .int .u64 0, .int .u64 0, .int .u64 0, .int .u64 0] 90) = wa at *
      generalize w0.heap.size = n4 at *
      refine onlD 10 (fun K hK => ?_)
      go_simp
      refine (X1.out _).mono ?_
      rintro e w2 ⟨rfl, h⟩
      have K2 := Lib.hid (K1.out.step h)
      (try have V2 := Lib.hid (V1.out.below h V1.out.lt))
      go_wp2_with fail
      refine hK.out _ _ (dt_sv K2.out) ?_
      clear hK K hHeld
      intro hHeld
      clear h K1
      (try clear V1)
      refine onlD 21 (fun K hK => ?_)
      go_simp
      refine (X2.out _).mono ?_
      rintro e w3 ⟨rfl, h⟩
      have K3 := Lib.hid (K2.out.step h)
      (try have V3 := Lib.hid (V2.out.below h V2.out.lt))
      go_wp2_with fail
      refine hK.out _ _ (dt_sv K3.out) ?_
      clear hK K hHeld
      intro hHeld
      clear h K2
      (try clear V2)
      refine onlD 22 (fun K hK => ?_)
      go_simp
      refine (X4.out _).mono ?_
      rintro e w4 ⟨rfl, h⟩
      have K4 := Lib.hid (K3.out.step h)
      (try have V4 := Lib.hid (V3.out.below h V3.out.lt))
      go_wp2_with fail
      refine hK.out _ _ (dt_sv K4.out) ?_
      clear hK K hHeld
      intro hHeld
      clear h K3
      (try clear V3)
      refine tkD 23 9 (v := ?_) ?_ hHeld ?_
      rotate_left 1
      (intro W hSw; (try dsimp only at hSw); go_simp; try with_reducible rfl)
      (try simp only [putA, putB, putC, putD])
      refine tkD 24 33 (v := ?_) ?_ hHeld ?_
      rotate_left 1
      (intro W hSw; (try dsimp only at hSw); go_simp; try with_reducible rfl)
      (try simp only [putA, putB, putC, putD])
      refine tkD 25 34 (v := ?_) ?_ hHeld ?_
      rotate_left 1
      (intro W hSw; (try dsimp only at hSw); go_simp; try with_reducible rfl)
      (try simp only [putA, putB, putC, putD])
      have v0 := V4.out.c 0 _ rfl
      have v1 := V4.out.c 1 _ rfl
      have v2 := V4.out.c 2 _ rfl
      have v3 := V4.out.c 3 _ rfl
      have v4 := V4.out.c 4 _ rfl
      have vf := V4.out.f
      refine wpAnyH_onlyD 27 (by kernel_rfl) (fun o ho K hK => ?_) (by kernel_rfl)
      simp only [List.getElem?_toArray, List.getElem?_cons_succ, List.getElem?_cons_zero, Option.some.injEq] at ho
      subst ho
      go_simp
      refine hK.out _ _ (dt_sv (K4.out.far5 (by omega) hne _ _ _ _ _)) ?_
      clear hK K hHeld
      intro hHeld
      refine tkD 28 8 (v := ?_) ?_ hHeld ?_
      rotate_left 1
      (intro W hSw; (try dsimp only at hSw); go_simp; try with_reducible rfl)
      (try simp only [putA, putB, putC, putD])
      refine wpAnyH_done (by kernel_rfl) ?_ _
      go_wp2_with fail
      go_meet
      exact ⟨_, rfl, V4.out.put5 _ _ _ _ _, (dt_r K4.out).far5 (by omega) _ _ _ _ _, below_put5 K4.out.l (by omega) _ _ _ _ _⟩
  case rest =>
    obtain ⟨n4, rfl, HV, HR, HL⟩ := hcut
    clear K0 X1 X2 X4
    obtain ⟨v0, v1, v2, v3, v4⟩ := HV.h5
    have hv := HV.lt
    have R0 := Lib.hid HR
    have LL := Lib.hid HL
    obtain ⟨r0, r1, r2, r3, r4⟩ := HR.h5
    have rf := HR.f
    clear HV HR HL
    go_wp2
    exact bodyPost_ret (v := .agg #[.bool (decide (A < 0)), .int .u64 (d0 (A.natAbs)), .int .u64 (d1 (A.natAbs)), .int .u64 (d2 (A.natAbs)), .int .u64 (d3 (A.natAbs))]) (by simp [results, Try.results61, go_sem, r0, r1, r2, r3, r4]) rfl ⟨rfl, below_put5 LL.out (by omega) _ _ _ _ _⟩
end Go.Proofs.Ytllkhgcokbpggaa
namespace Go.Proofs.Ytllkhgcokbpggaa
open Go.RowKit
set_option linter.unusedVariables false
set_option linter.unusedSimpArgs false

theorem cmp_sgn (n : Int) : cmpI n 0 = sgnA n := by
  unfold cmpI sgnA
  split <;> (try split) <;> (try split) <;> omega
set_option maxHeartbeats 2000000 in
theorem rSide_any (ax ay bx by' px py : Int) (w : World) :
    Calls Try.prog 35 #[.agg #[.int .i64 ax, .int .i64 ay], .agg #[.int .i64 bx, .int .i64 by'], .agg #[.int .i64 px, .int .i64 py]] w fun e w' => e = .returned (.int .i64 (sideP ⟨ax, ay⟩ ⟨bx, by'⟩ ⟨px, py⟩)) ∧ Below w.heap.size w w' := by
  by_cases h : (Rg ax ∧ Rg ay) ∧ (Rg bx ∧ Rg by') ∧ (Rg px ∧ Rg py)
  · have E := Lib.hid (show sgnA (area ⟨ax, ay⟩ ⟨bx, by'⟩ ⟨px, py⟩) = sideP ⟨ax, ay⟩ ⟨bx, by'⟩ ⟨px, py⟩ from (if_pos (show Pt.near ⟨ax, ay⟩ ∧ Pt.near ⟨bx, by'⟩ ∧ Pt.near ⟨px, py⟩ from h)).symm)
    have N := Lib.hid (fun (n : Nat) (W : World) (B : BW W n [.int .i64 ax, .int .i64 ay, .int .i64 bx, .int .i64 by', .int .i64 px, .int .i64 py]) => rNear3_any ax ay bx by' px py n W B)
    rw [decide_eq_true h] at N
    have F := area_fit h.1.1 h.1.2 h.2.1.1 h.2.1.2 h.2.2.1 h.2.2.2
    have X := Lib.hid (fun (W : World) => rArea_any ax ay bx by' px py _ W h.1.1 h.1.2 h.2.1.1 h.2.1.2 h.2.2.1 h.2.2.2 rfl)
    have S := Lib.hid (fun (W : World) => rSign_any (area ⟨ax, ay⟩ ⟨bx, by'⟩ ⟨px, py⟩) W F.2.2.2.2)
    rw [cmp_sgn, E.out] at S
    generalize sideP ⟨ax, ay⟩ ⟨bx, by'⟩ ⟨px, py⟩ = r at *
    generalize area ⟨ax, ay⟩ ⟨bx, by'⟩ ⟨px, py⟩ = A at *
    clear F E h
    go_enter Try.func35, Try.ntmps35
    go_wp2_with fail
    refine (N.out _ _ (BW.new _ _ [_, _, _, _, _, _] _ (by simp))).mono ?_
    rintro e w1 ⟨rfl, rfl⟩
    go_wp2_with fail
    refine calls_gen (S := fun W => Below w.heap.size w W) (by repeat (first | exact Below.refl _ _ | assumption | refine Below.setCell ?_ (by first | omega | (simp; done) | (simp; omega)) _ | refine Below.alloc ?_ (by first | omega | (simp; done) | (simp; omega)) _ | refine below_drewN ?_ _ | refine Below.drew ?_ | refine Below.trans ?_ (Below.mono (by assumption) (by first | omega | (simp; done) | (simp; omega))))) (fun W0 hS => ?_)
    have L0 := Lib.hid hS
    clear hS N
    refine (X.out _).mono ?_
    rintro e w2 ⟨rfl, h⟩
    have L2 := Lib.hid (L0.out.trans (h.mono L0.out.size))
    clear h L0 X
    go_wp2_with fail
    refine (S.out _).mono ?_
    rintro e w3 ⟨rfl, h⟩
    have L3 := Lib.hid (L2.out.trans (h.mono L2.out.size))
    clear h L2 S
    go_wp2
    go_ret
    exact ⟨rfl, L3.out⟩
  · have E := Lib.hid (show (0 : Int) = sideP ⟨ax, ay⟩ ⟨bx, by'⟩ ⟨px, py⟩ from (if_neg (show ¬ (Pt.near ⟨ax, ay⟩ ∧ Pt.near ⟨bx, by'⟩ ∧ Pt.near ⟨px, py⟩) from h)).symm)
    have N := Lib.hid (fun (n : Nat) (W : World) (B : BW W n [.int .i64 ax, .int .i64 ay, .int .i64 bx, .int .i64 by', .int .i64 px, .int .i64 py]) => rNear3_any ax ay bx by' px py n W B)
    rw [decide_eq_false h] at N
    clear h
    go_enter Try.func35, Try.ntmps35
    go_wp2_with fail
    refine (N.out _ _ (BW.new _ _ [_, _, _, _, _, _] _ (by simp))).mono ?_
    rintro e w1 ⟨rfl, rfl⟩
    go_wp2
    go_ret
    exact ⟨retI E.out, by repeat (first | exact Below.refl _ _ | assumption | refine Below.setCell ?_ (by first | omega | (simp; done) | (simp; omega)) _ | refine Below.alloc ?_ (by first | omega | (simp; done) | (simp; omega)) _ | refine below_drewN ?_ _ | refine Below.drew ?_ | refine Below.trans ?_ (Below.mono (by assumption) (by first | omega | (simp; done) | (simp; omega))))⟩
end Go.Proofs.Ytllkhgcokbpggaa
namespace Go.Proofs.Ytllkhgcokbpggaa
open Go.RowKit
set_option linter.unusedVariables false
set_option linter.unusedSimpArgs false

/-- where on its way a move crosses -/
noncomputable def crossN (a b p q : Pt) : Int := if crossP a b p q = true then partI (-(area a b p)) (area a b q - area a b p) else 0
theorem sgnA_pos {n : Int} : 0 < sgnA n ↔ 0 < n := by unfold sgnA; split <;> (try split) <;> omega
theorem sgnA_lt {n : Int} : sgnA n < 0 ↔ n < 0 := by unfold sgnA; split <;> (try split) <;> omega
theorem sgnA_in (n : Int) : -1 ≤ sgnA n ∧ sgnA n ≤ 1 := by unfold sgnA; split <;> (try split) <;> omega
/-- a move near the middle crosses by four signs -/
theorem cross_near {a b p q : Pt} (h : a.near ∧ b.near ∧ p.near ∧ q.near) : crossP a b p q = decide (¬ 0 < sgnA (area a b p) ∧ 0 < sgnA (area a b q) ∧ ¬ sideP p q a < 0 ∧ sideP p q b < 0) := by
  unfold crossP sideP
  rw [decide_eq_decide, if_pos ⟨h.2.2.1, h.2.2.2, h.1⟩, if_pos ⟨h.2.2.1, h.2.2.2, h.2.1⟩, sgnA_pos, sgnA_pos, sgnA_lt, sgnA_lt]
  constructor
  · rintro ⟨_, c, d, e, f⟩; exact ⟨by omega, d, by omega, f⟩
  · rintro ⟨c, d, e, f⟩; exact ⟨h, by omega, d, by omega, f⟩
/-- the number of all the move's parts fits -/
theorem all_fit {s t : Int} (h1 : -633825300114114700748351602688 ≤ s) (h2 : s ≤ 633825300114114700748351602688) (h3 : -633825300114114700748351602688 ≤ t) (h4 : t ≤ 633825300114114700748351602688) :
    In128 s ∧ In128 (-s) ∧ In128 t ∧ clipW (t + -s) = t - s ∧ In128 (t - s) := by
  have i1 : In128 (t + -s) := by unfold In128; omega
  refine ⟨by unfold In128; omega, by unfold In128; omega, by unfold In128; omega, ?_, by unfold In128; omega⟩
  unfold clipW; rw [if_pos i1]; omega
theorem area_99 {a b p : Pt} (ha : a.near) (hb : b.near) (hp : p.near) : -633825300114114700748351602688 ≤ area a b p ∧ area a b p ≤ 633825300114114700748351602688 := by
  unfold Pt.near Rg at *
  have h : ∀ {x y : Int}, -562949953421312 ≤ x → x ≤ 562949953421312 → -562949953421312 ≤ y → y ≤ 562949953421312 → -316912650057057350374175801344 ≤ x * y ∧ x * y ≤ 316912650057057350374175801344 := by
    intro x y x0 x1 y0 y1
    have h1 : 0 ≤ (562949953421312 - x) * (562949953421312 + y) := Int.mul_nonneg (by omega) (by omega)
    have h2 : 0 ≤ (562949953421312 + x) * (562949953421312 - y) := Int.mul_nonneg (by omega) (by omega)
    have h3 : 0 ≤ (562949953421312 - x) * (562949953421312 - y) := Int.mul_nonneg (by omega) (by omega)
    have h4 : 0 ≤ (562949953421312 + x) * (562949953421312 + y) := Int.mul_nonneg (by omega) (by omega)
    have e1 : (562949953421312 - x) * (562949953421312 + y) = 316912650057057350374175801344 + 562949953421312 * y - 562949953421312 * x - x * y := by grind
    have e2 : (562949953421312 + x) * (562949953421312 - y) = 316912650057057350374175801344 - 562949953421312 * y + 562949953421312 * x - x * y := by grind
    have e3 : (562949953421312 - x) * (562949953421312 - y) = 316912650057057350374175801344 - 562949953421312 * y - 562949953421312 * x + x * y := by grind
    have e4 : (562949953421312 + x) * (562949953421312 + y) = 316912650057057350374175801344 + 562949953421312 * y + 562949953421312 * x + x * y := by grind
    omega
  have q1 := h (x := b.x - a.x) (y := p.y - a.y) (by omega) (by omega) (by omega) (by omega)
  have q2 := h (x := b.y - a.y) (y := p.x - a.x) (by omega) (by omega) (by omega) (by omega)
  unfold area
  omega
theorem cross_no {a b p q : Pt} (h : crossP a b p q = false) : crossN a b p q = 0 := by unfold crossN; rw [if_neg (by rw [h]; simp)]
theorem cross_yes {a b p q : Pt} (h : crossP a b p q = true) : crossN a b p q = partI (-(area a b p)) (area a b q - area a b p) := by unfold crossN; rw [if_pos h]
/-- all that is to come, in a block of its own, beside the first area -/
def CrCut (w : World) (n1 : Nat) (s A : Int) (t : Value) (W : World) : Prop := ∃ n3 : Nat, t = .pointer (some ⟨n3, 0, none⟩) ∧ St w W [(n3, [.bool (decide (A < 0)), .int .u64 (d0 (A).natAbs), .int .u64 (d1 (A).natAbs), .int .u64 (d2 (A).natAbs), .int .u64 (d3 (A).natAbs)]), (n1, [.bool (decide (s < 0)), .int .u64 (d0 (s).natAbs), .int .u64 (d1 (s).natAbs), .int .u64 (d2 (s).natAbs), .int .u64 (d3 (s).natAbs)])]
/-- the blocks of Crosses -/
def CrL (w : World) (ax ay bx by' px py qx qy : Int) : List (Nat × List Value) := [(w.heap.size, [.int .i64 ax, .int .i64 ay]), (w.heap.size + 1, [.int .i64 bx, .int .i64 by']), (w.heap.size + 1 + 1, [.int .i64 px, .int .i64 py]), (w.heap.size + 1 + 1 + 1, [.int .i64 qx, .int .i64 qy])]
theorem cr_sv {w W : World} {ax ay bx by' px py qx qy : Int} (k : St w W (CrL w ax ay bx by' px py qx qy)) : (W.cell? ⟨w.heap.size, 0, none⟩ = some (.int .i64 ax) ∧ W.cell? ⟨w.heap.size, 1, none⟩ = some (.int .i64 ay)) ∧ (W.cell? ⟨w.heap.size + 1, 0, none⟩ = some (.int .i64 bx) ∧ W.cell? ⟨w.heap.size + 1, 1, none⟩ = some (.int .i64 by')) ∧ (W.cell? ⟨w.heap.size + 1 + 1, 0, none⟩ = some (.int .i64 px) ∧ W.cell? ⟨w.heap.size + 1 + 1, 1, none⟩ = some (.int .i64 py)) ∧ (W.cell? ⟨w.heap.size + 1 + 1 + 1, 0, none⟩ = some (.int .i64 qx) ∧ W.cell? ⟨w.heap.size + 1 + 1 + 1, 1, none⟩ = some (.int .i64 qy)) :=
  ⟨(k.b _ _ (by unfold CrL; simp)).h2', (k.b _ _ (by unfold CrL; simp)).h2', (k.b _ _ (by unfold CrL; simp)).h2', (k.b _ _ (by unfold CrL; simp)).h2'⟩
theorem cr_z {w W : World} {ax ay bx by' px py qx qy : Int} (k : St w W (CrL w ax ay bx by' px py qx qy)) : w.heap.size + 1 + 1 + 1 < W.heap.size := (k.b (w.heap.size + 1 + 1 + 1) [.int .i64 qx, .int .i64 qy] (by unfold CrL; simp)).lt
theorem cr_new {w : World} {ax ay bx by' px py qx qy : Int} {W : World} (h0 : BW W w.heap.size [.int .i64 ax, .int .i64 ay]) (h1 : BW W (w.heap.size + 1) [.int .i64 bx, .int .i64 by']) (h2 : BW W (w.heap.size + 1 + 1) [.int .i64 px, .int .i64 py]) (h3 : BW W (w.heap.size + 1 + 1 + 1) [.int .i64 qx, .int .i64 qy]) (h : Below w.heap.size w W) : St w W (CrL w ax ay bx by' px py qx qy) :=
  St.cons h0 (St.cons h1 (St.cons h2 (St.cons h3 (St.nil h))))
end Go.Proofs.Ytllkhgcokbpggaa
namespace Go.Proofs.Ytllkhgcokbpggaa
open Go.RowKit
set_option linter.unusedVariables false
set_option linter.unusedSimpArgs false

theorem sgnA_zero {n : Int} : sgnA n = 0 ↔ n = 0 := by unfold sgnA; split <;> (try split) <;> omega
theorem sgnA_mul {x y : Int} : sgnA x * sgnA y < 0 ↔ x * y < 0 := by
  rcases Int.lt_trichotomy x 0 with hx | hx | hx <;> rcases Int.lt_trichotomy y 0 with hy | hy | hy
  · have := Int.mul_pos_of_neg_of_neg hx hy
    unfold sgnA; rw [if_pos hx, if_pos hy]; omega
  · subst hy; simp [sgnA]
  · have := Int.mul_neg_of_neg_of_pos hx hy
    unfold sgnA; rw [if_pos hx, if_neg (by omega), if_pos hy]; omega
  · subst hx; simp [sgnA]
  · subst hx; simp [sgnA]
  · subst hx; simp [sgnA]
  · have := Int.mul_neg_of_pos_of_neg hx hy
    unfold sgnA; rw [if_neg (by omega), if_pos hx, if_pos hy]; omega
  · subst hy; simp [sgnA]
  · have := Int.mul_pos hx hy
    unfold sgnA; rw [if_neg (by omega), if_pos hx, if_neg (by omega), if_pos hy]; omega
/-- stretches near the middle meet by four sides, and by what lies on them -/
theorem meets_near {a b p q : Pt} (h : a.near ∧ b.near ∧ p.near ∧ q.near) : meetsP a b p q = ((decide (sideP a b p * sideP a b q < 0) && decide (sideP p q a * sideP p q b < 0)) ||
    ((((decide (sideP a b p = 0) && onB a b p) || (decide (sideP a b q = 0) && onB a b q)) || (decide (sideP p q a = 0) && onB p q a)) || (decide (sideP p q b = 0) && onB p q b))) := by
  unfold meetsP sideP
  rw [if_pos ⟨h.1, h.2.1, h.2.2.1⟩, if_pos ⟨h.1, h.2.1, h.2.2.2⟩, if_pos ⟨h.2.2.1, h.2.2.2, h.1⟩, if_pos ⟨h.2.2.1, h.2.2.2, h.2.1⟩, decide_eq_true h, Bool.true_and]
  simp only [sgnA_mul, sgnA_zero]
theorem side_in (a b p : Pt) : -1 ≤ sideP a b p ∧ sideP a b p ≤ 1 := by
  unfold sideP; split
  · exact sgnA_in _
  · omega
theorem mul_1 {x y : Int} (hx : -1 ≤ x ∧ x ≤ 1) (hy : -1 ≤ y ∧ y ≤ 1) : -1 ≤ x * y ∧ x * y ≤ 1 := by
  obtain rfl | rfl | rfl : x = -1 ∨ x = 0 ∨ x = 1 := by omega
  all_goals omega
set_option maxRecDepth 100000 in
set_option maxHeartbeats 16000000 in
theorem rMeets_any (ax ay bx by' px py qx qy : Int) (w : World) :
    Calls Try.prog 36 #[.agg #[.int .i64 ax, .int .i64 ay], .agg #[.int .i64 bx, .int .i64 by'], .agg #[.int .i64 px, .int .i64 py], .agg #[.int .i64 qx, .int .i64 qy]] w fun e w' => e = .returned (.bool (meetsP ⟨ax, ay⟩ ⟨bx, by'⟩ ⟨px, py⟩ ⟨qx, qy⟩)) ∧ Below w.heap.size w w' := by
  by_cases h : (Rg ax ∧ Rg ay) ∧ (Rg bx ∧ Rg by') ∧ (Rg px ∧ Rg py) ∧ (Rg qx ∧ Rg qy)
  · have N := Lib.hid (fun (n : Nat) (W : World) (B : BW W n [.int .i64 ax, .int .i64 ay, .int .i64 bx, .int .i64 by', .int .i64 px, .int .i64 py, .int .i64 qx, .int .i64 qy]) => rNear4_any ax ay bx by' px py qx qy n W B)
    rw [decide_eq_true h] at N
    have hP : Pt.near ⟨ax, ay⟩ ∧ Pt.near ⟨bx, by'⟩ ∧ Pt.near ⟨px, py⟩ ∧ Pt.near ⟨qx, qy⟩ := h
    have HR := Lib.hid (meets_near hP)
    have X0 := Lib.hid (fun (W : World) => rSide_any ax ay bx by' px py W)
    have I0 := side_in ⟨ax, ay⟩ ⟨bx, by'⟩ ⟨px, py⟩
    have O0 := Lib.hid (fun (W : World) => rOn_any ax ay bx by' px py W)
    have X1 := Lib.hid (fun (W : World) => rSide_any ax ay bx by' qx qy W)
    have I1 := side_in ⟨ax, ay⟩ ⟨bx, by'⟩ ⟨qx, qy⟩
    have O1 := Lib.hid (fun (W : World) => rOn_any ax ay bx by' qx qy W)
    have X2 := Lib.hid (fun (W : World) => rSide_any px py qx qy ax ay W)
    have I2 := side_in ⟨px, py⟩ ⟨qx, qy⟩ ⟨ax, ay⟩
    have O2 := Lib.hid (fun (W : World) => rOn_any px py qx qy ax ay W)
    have X3 := Lib.hid (fun (W : World) => rSide_any px py qx qy bx by' W)
    have I3 := side_in ⟨px, py⟩ ⟨qx, qy⟩ ⟨bx, by'⟩
    have O3 := Lib.hid (fun (W : World) => rOn_any px py qx qy bx by' W)
    generalize meetsP ⟨ax, ay⟩ ⟨bx, by'⟩ ⟨px, py⟩ ⟨qx, qy⟩ = r at *
    generalize sideP ⟨ax, ay⟩ ⟨bx, by'⟩ ⟨px, py⟩ = c at *
    generalize onB ⟨ax, ay⟩ ⟨bx, by'⟩ ⟨px, py⟩ = o0 at *
    generalize sideP ⟨ax, ay⟩ ⟨bx, by'⟩ ⟨qx, qy⟩ = d at *
    generalize onB ⟨ax, ay⟩ ⟨bx, by'⟩ ⟨qx, qy⟩ = o1 at *
    generalize sideP ⟨px, py⟩ ⟨qx, qy⟩ ⟨ax, ay⟩ = e' at *
    generalize onB ⟨px, py⟩ ⟨qx, qy⟩ ⟨ax, ay⟩ = o2 at *
    generalize sideP ⟨px, py⟩ ⟨qx, qy⟩ ⟨bx, by'⟩ = f at *
    generalize onB ⟨px, py⟩ ⟨qx, qy⟩ ⟨bx, by'⟩ = o3 at *
    have M1 := mul_1 I0 I1
    have M2 := mul_1 I2 I3
    have w1' : IntKind.i64.wrap (c * d) = c * d := IntWalk.i64_in _ (by omega)
    have w2' : IntKind.i64.wrap (e' * f) = e' * f := IntWalk.i64_in _ (by omega)
    have w3' : wrap64 (c * d) = c * d := by unfold wrap64; omega
    have w4' : wrap64 (e' * f) = e' * f := by unfold wrap64; omega
    clear hP h I0 I1 I2 I3 M1 M2
    go_enter Try.func36, Try.ntmps36
    go_wp2_with fail
    refine (N.out _ _ (BW.new _ _ [_, _, _, _, _, _, _, _] _ (by simp))).mono ?_
    rintro e w1 ⟨rfl, rfl⟩
    go_wp2_with fail
    refine calls_gen (S := fun W => St w W (CrL w ax ay bx by' px py qx qy)) (cr_new (((((BW.new w w.heap.size [_, _] _ rfl).alloc _).alloc _).alloc _).alloc _) ((((BW.new _ _ [_, _] _ (by simp)).alloc _).alloc _).alloc _) (((BW.new _ _ [_, _] _ (by simp)).alloc _).alloc _) ((BW.new _ _ [_, _] _ (by simp)).alloc _) (by repeat (first | exact Below.refl _ _ | assumption | refine Below.setCell ?_ (by first | omega | (simp; done) | (simp; omega)) _ | refine Below.alloc ?_ (by first | omega | (simp; done) | (simp; omega)) _ | refine below_drewN ?_ _ | refine Below.drew ?_ | refine Below.trans ?_ (Below.mono (by assumption) (by first | omega | (simp; done) | (simp; omega)))))) (fun W0 hS => ?_)
    have K0 := Lib.hid hS
    clear hS N
    refine (X0.out _).mono ?_
    rintro e w1 ⟨rfl, h⟩
    have K1 := Lib.hid (K0.out.step h)
    clear h K0
    obtain ⟨⟨a0, a1⟩, ⟨b0, b1⟩, ⟨p0, p1⟩, ⟨q0, q1⟩⟩ := cr_sv (K1.out)
    go_wp2_with fail
    refine (X1.out _).mono ?_
    clear a0 a1 b0 b1 p0 p1 q0 q1
    rintro e w2 ⟨rfl, h⟩
    have K2 := Lib.hid (K1.out.step h)
    clear h K1
    obtain ⟨⟨a0, a1⟩, ⟨b0, b1⟩, ⟨p0, p1⟩, ⟨q0, q1⟩⟩ := cr_sv (K2.out)
    go_wp2_with fail
    refine (X2.out _).mono ?_
    clear a0 a1 b0 b1 p0 p1 q0 q1
    rintro e w3 ⟨rfl, h⟩
    have K3 := Lib.hid (K2.out.step h)
    clear h K2
    obtain ⟨⟨a0, a1⟩, ⟨b0, b1⟩, ⟨p0, p1⟩, ⟨q0, q1⟩⟩ := cr_sv (K3.out)
    go_wp2_with fail
    refine (X3.out _).mono ?_
    clear a0 a1 b0 b1 p0 p1 q0 q1
    rintro e w4 ⟨rfl, h⟩
    have K4 := Lib.hid (K3.out.step h)
    clear h K3
    clear X0 X1 X2 X3
    by_cases g1 : c * d < 0
    · by_cases g2 : e' * f < 0
      · go_wp2
        go_ret
        exact ⟨retB (by rw [HR.out]; simp [g1, g2]), K4.out.l⟩
      · skip
        by_cases q0 : c = 0
        · skip
          obtain ⟨⟨a0, a1⟩, ⟨b0, b1⟩, ⟨p0, p1⟩, ⟨q0, q1⟩⟩ := cr_sv (K4.out)
          go_wp2_with fail
          refine (O0.out _).mono ?_
          clear a0 a1 b0 b1 p0 p1 q0 q1
          rintro e w5 ⟨rfl, h⟩
          have K5 := Lib.hid (K4.out.step h)
          clear h K4
          by_cases y0 : o0 = true
          · skip
            go_wp2
            go_ret
            exact ⟨retB (by rw [HR.out]; simp [g1, g2, q0, y0] <;> (intro hh; omega)), K5.out.l⟩
          · skip
            by_cases q1 : d = 0
            · skip
              obtain ⟨⟨a0, a1⟩, ⟨b0, b1⟩, ⟨p0, p1⟩, ⟨q0, q1⟩⟩ := cr_sv (K5.out)
              go_wp2_with fail
              refine (O1.out _).mono ?_
              clear a0 a1 b0 b1 p0 p1 q0 q1
              rintro e w6 ⟨rfl, h⟩
              have K6 := Lib.hid (K5.out.step h)
              clear h K5
              by_cases y1 : o1 = true
              · skip
                go_wp2
                go_ret
                exact ⟨retB (by rw [HR.out]; simp [g1, g2, q0, y0, q1, y1] <;> (intro hh; omega)), K6.out.l⟩
              · skip
                by_cases q2 : e' = 0
                · skip
                  obtain ⟨⟨a0, a1⟩, ⟨b0, b1⟩, ⟨p0, p1⟩, ⟨q0, q1⟩⟩ := cr_sv (K6.out)
                  go_wp2_with fail
                  refine (O2.out _).mono ?_
                  clear a0 a1 b0 b1 p0 p1 q0 q1
                  rintro e w7 ⟨rfl, h⟩
                  have K7 := Lib.hid (K6.out.step h)
                  clear h K6
                  by_cases y2 : o2 = true
                  · skip
                    go_wp2
                    go_ret
                    exact ⟨retB (by rw [HR.out]; simp [g1, g2, q0, y0, q1, y1, q2, y2] <;> (intro hh; omega)), K7.out.l⟩
                  · skip
                    by_cases q3 : f = 0
                    · skip
                      obtain ⟨⟨a0, a1⟩, ⟨b0, b1⟩, ⟨p0, p1⟩, ⟨q0, q1⟩⟩ := cr_sv (K7.out)
                      go_wp2_with fail
                      refine (O3.out _).mono ?_
                      clear a0 a1 b0 b1 p0 p1 q0 q1
                      rintro e w8 ⟨rfl, h⟩
                      have K8 := Lib.hid (K7.out.step h)
                      clear h K7
                      go_wp2
                      go_ret
                      exact ⟨retB (by rw [HR.out]; simp [g1, g2, q0, y0, q1, y1, q2, y2, q3] <;> (intro hh; omega)), K8.out.l⟩
                    · skip
                      go_wp2
                      go_ret
                      exact ⟨retB (by rw [HR.out]; simp [g1, g2, q0, y0, q1, y1, q2, y2, q3] <;> (intro hh; omega)), K7.out.l⟩
                · skip
                  by_cases q3 : f = 0
                  · skip
                    obtain ⟨⟨a0, a1⟩, ⟨b0, b1⟩, ⟨p0, p1⟩, ⟨q0, q1⟩⟩ := cr_sv (K6.out)
                    go_wp2_with fail
                    refine (O3.out _).mono ?_
                    clear a0 a1 b0 b1 p0 p1 q0 q1
                    rintro e w7 ⟨rfl, h⟩
                    have K7 := Lib.hid (K6.out.step h)
                    clear h K6
                    go_wp2
                    go_ret
                    exact ⟨retB (by rw [HR.out]; simp [g1, g2, q0, y0, q1, y1, q2, q3] <;> (intro hh; omega)), K7.out.l⟩
                  · skip
                    go_wp2
                    go_ret
                    exact ⟨retB (by rw [HR.out]; simp [g1, g2, q0, y0, q1, y1, q2, q3] <;> (intro hh; omega)), K6.out.l⟩
            · skip
              by_cases q2 : e' = 0
              · skip
                obtain ⟨⟨a0, a1⟩, ⟨b0, b1⟩, ⟨p0, p1⟩, ⟨q0, q1⟩⟩ := cr_sv (K5.out)
                go_wp2_with fail
                refine (O2.out _).mono ?_
                clear a0 a1 b0 b1 p0 p1 q0 q1
                rintro e w6 ⟨rfl, h⟩
                have K6 := Lib.hid (K5.out.step h)
                clear h K5
                by_cases y2 : o2 = true
                · skip
                  go_wp2
                  go_ret
                  exact ⟨retB (by rw [HR.out]; simp [g1, g2, q0, y0, q1, q2, y2] <;> (intro hh; omega)), K6.out.l⟩
                · skip
                  by_cases q3 : f = 0
                  · skip
                    obtain ⟨⟨a0, a1⟩, ⟨b0, b1⟩, ⟨p0, p1⟩, ⟨q0, q1⟩⟩ := cr_sv (K6.out)
                    go_wp2_with fail
                    refine (O3.out _).mono ?_
                    clear a0 a1 b0 b1 p0 p1 q0 q1
                    rintro e w7 ⟨rfl, h⟩
                    have K7 := Lib.hid (K6.out.step h)
                    clear h K6
                    go_wp2
                    go_ret
                    exact ⟨retB (by rw [HR.out]; simp [g1, g2, q0, y0, q1, q2, y2, q3] <;> (intro hh; omega)), K7.out.l⟩
                  · skip
                    go_wp2
                    go_ret
                    exact ⟨retB (by rw [HR.out]; simp [g1, g2, q0, y0, q1, q2, y2, q3] <;> (intro hh; omega)), K6.out.l⟩
              · skip
                by_cases q3 : f = 0
                · skip
                  obtain ⟨⟨a0, a1⟩, ⟨b0, b1⟩, ⟨p0, p1⟩, ⟨q0, q1⟩⟩ := cr_sv (K5.out)
                  go_wp2_with fail
                  refine (O3.out _).mono ?_
                  clear a0 a1 b0 b1 p0 p1 q0 q1
                  rintro e w6 ⟨rfl, h⟩
                  have K6 := Lib.hid (K5.out.step h)
                  clear h K5
                  go_wp2
                  go_ret
                  exact ⟨retB (by rw [HR.out]; simp [g1, g2, q0, y0, q1, q2, q3] <;> (intro hh; omega)), K6.out.l⟩
                · skip
                  go_wp2
                  go_ret
                  exact ⟨retB (by rw [HR.out]; simp [g1, g2, q0, y0, q1, q2, q3] <;> (intro hh; omega)), K5.out.l⟩
        · skip
          by_cases q1 : d = 0
          · skip
            obtain ⟨⟨a0, a1⟩, ⟨b0, b1⟩, ⟨p0, p1⟩, ⟨q0, q1⟩⟩ := cr_sv (K4.out)
            go_wp2_with fail
            refine (O1.out _).mono ?_
            clear a0 a1 b0 b1 p0 p1 q0 q1
            rintro e w5 ⟨rfl, h⟩
            have K5 := Lib.hid (K4.out.step h)
            clear h K4
            by_cases y1 : o1 = true
            · skip
              go_wp2
              go_ret
              exact ⟨retB (by rw [HR.out]; simp [g1, g2, q0, q1, y1] <;> (intro hh; omega)), K5.out.l⟩
            · skip
              by_cases q2 : e' = 0
              · skip
                obtain ⟨⟨a0, a1⟩, ⟨b0, b1⟩, ⟨p0, p1⟩, ⟨q0, q1⟩⟩ := cr_sv (K5.out)
                go_wp2_with fail
                refine (O2.out _).mono ?_
                clear a0 a1 b0 b1 p0 p1 q0 q1
                rintro e w6 ⟨rfl, h⟩
                have K6 := Lib.hid (K5.out.step h)
                clear h K5
                by_cases y2 : o2 = true
                · skip
                  go_wp2
                  go_ret
                  exact ⟨retB (by rw [HR.out]; simp [g1, g2, q0, q1, y1, q2, y2] <;> (intro hh; omega)), K6.out.l⟩
                · skip
                  by_cases q3 : f = 0
                  · skip
                    obtain ⟨⟨a0, a1⟩, ⟨b0, b1⟩, ⟨p0, p1⟩, ⟨q0, q1⟩⟩ := cr_sv (K6.out)
                    go_wp2_with fail
                    refine (O3.out _).mono ?_
                    clear a0 a1 b0 b1 p0 p1 q0 q1
                    rintro e w7 ⟨rfl, h⟩
                    have K7 := Lib.hid (K6.out.step h)
                    clear h K6
                    go_wp2
                    go_ret
                    exact ⟨retB (by rw [HR.out]; simp [g1, g2, q0, q1, y1, q2, y2, q3] <;> (intro hh; omega)), K7.out.l⟩
                  · skip
                    go_wp2
                    go_ret
                    exact ⟨retB (by rw [HR.out]; simp [g1, g2, q0, q1, y1, q2, y2, q3] <;> (intro hh; omega)), K6.out.l⟩
              · skip
                by_cases q3 : f = 0
                · skip
                  obtain ⟨⟨a0, a1⟩, ⟨b0, b1⟩, ⟨p0, p1⟩, ⟨q0, q1⟩⟩ := cr_sv (K5.out)
                  go_wp2_with fail
                  refine (O3.out _).mono ?_
                  clear a0 a1 b0 b1 p0 p1 q0 q1
                  rintro e w6 ⟨rfl, h⟩
                  have K6 := Lib.hid (K5.out.step h)
                  clear h K5
                  go_wp2
                  go_ret
                  exact ⟨retB (by rw [HR.out]; simp [g1, g2, q0, q1, y1, q2, q3] <;> (intro hh; omega)), K6.out.l⟩
                · skip
                  go_wp2
                  go_ret
                  exact ⟨retB (by rw [HR.out]; simp [g1, g2, q0, q1, y1, q2, q3] <;> (intro hh; omega)), K5.out.l⟩
          · skip
            by_cases q2 : e' = 0
            · skip
              obtain ⟨⟨a0, a1⟩, ⟨b0, b1⟩, ⟨p0, p1⟩, ⟨q0, q1⟩⟩ := cr_sv (K4.out)
              go_wp2_with fail
              refine (O2.out _).mono ?_
              clear a0 a1 b0 b1 p0 p1 q0 q1
              rintro e w5 ⟨rfl, h⟩
              have K5 := Lib.hid (K4.out.step h)
              clear h K4
              by_cases y2 : o2 = true
              · skip
                go_wp2
                go_ret
                exact ⟨retB (by rw [HR.out]; simp [g1, g2, q0, q1, q2, y2] <;> (intro hh; omega)), K5.out.l⟩
              · skip
                by_cases q3 : f = 0
                · skip
                  obtain ⟨⟨a0, a1⟩, ⟨b0, b1⟩, ⟨p0, p1⟩, ⟨q0, q1⟩⟩ := cr_sv (K5.out)
                  go_wp2_with fail
                  refine (O3.out _).mono ?_
                  clear a0 a1 b0 b1 p0 p1 q0 q1
                  rintro e w6 ⟨rfl, h⟩
                  have K6 := Lib.hid (K5.out.step h)
                  clear h K5
                  go_wp2
                  go_ret
                  exact ⟨retB (by rw [HR.out]; simp [g1, g2, q0, q1, q2, y2, q3] <;> (intro hh; omega)), K6.out.l⟩
                · skip
                  go_wp2
                  go_ret
                  exact ⟨retB (by rw [HR.out]; simp [g1, g2, q0, q1, q2, y2, q3] <;> (intro hh; omega)), K5.out.l⟩
            · skip
              by_cases q3 : f = 0
              · skip
                obtain ⟨⟨a0, a1⟩, ⟨b0, b1⟩, ⟨p0, p1⟩, ⟨q0, q1⟩⟩ := cr_sv (K4.out)
                go_wp2_with fail
                refine (O3.out _).mono ?_
                clear a0 a1 b0 b1 p0 p1 q0 q1
                rintro e w5 ⟨rfl, h⟩
                have K5 := Lib.hid (K4.out.step h)
                clear h K4
                go_wp2
                go_ret
                exact ⟨retB (by rw [HR.out]; simp [g1, g2, q0, q1, q2, q3] <;> (intro hh; omega)), K5.out.l⟩
              · skip
                go_wp2
                go_ret
                exact ⟨retB (by rw [HR.out]; simp [g1, g2, q0, q1, q2, q3] <;> (intro hh; omega)), K4.out.l⟩
    · skip
      by_cases q0 : c = 0
      · skip
        obtain ⟨⟨a0, a1⟩, ⟨b0, b1⟩, ⟨p0, p1⟩, ⟨q0, q1⟩⟩ := cr_sv (K4.out)
        go_wp2_with fail
        refine (O0.out _).mono ?_
        clear a0 a1 b0 b1 p0 p1 q0 q1
        rintro e w5 ⟨rfl, h⟩
        have K5 := Lib.hid (K4.out.step h)
        clear h K4
        by_cases y0 : o0 = true
        · skip
          go_wp2
          go_ret
          exact ⟨retB (by rw [HR.out]; simp [g1, q0, y0] <;> (intro hh; omega)), K5.out.l⟩
        · skip
          by_cases q1 : d = 0
          · skip
            obtain ⟨⟨a0, a1⟩, ⟨b0, b1⟩, ⟨p0, p1⟩, ⟨q0, q1⟩⟩ := cr_sv (K5.out)
            go_wp2_with fail
            refine (O1.out _).mono ?_
            clear a0 a1 b0 b1 p0 p1 q0 q1
            rintro e w6 ⟨rfl, h⟩
            have K6 := Lib.hid (K5.out.step h)
            clear h K5
            by_cases y1 : o1 = true
            · skip
              go_wp2
              go_ret
              exact ⟨retB (by rw [HR.out]; simp [g1, q0, y0, q1, y1] <;> (intro hh; omega)), K6.out.l⟩
            · skip
              by_cases q2 : e' = 0
              · skip
                obtain ⟨⟨a0, a1⟩, ⟨b0, b1⟩, ⟨p0, p1⟩, ⟨q0, q1⟩⟩ := cr_sv (K6.out)
                go_wp2_with fail
                refine (O2.out _).mono ?_
                clear a0 a1 b0 b1 p0 p1 q0 q1
                rintro e w7 ⟨rfl, h⟩
                have K7 := Lib.hid (K6.out.step h)
                clear h K6
                by_cases y2 : o2 = true
                · skip
                  go_wp2
                  go_ret
                  exact ⟨retB (by rw [HR.out]; simp [g1, q0, y0, q1, y1, q2, y2] <;> (intro hh; omega)), K7.out.l⟩
                · skip
                  by_cases q3 : f = 0
                  · skip
                    obtain ⟨⟨a0, a1⟩, ⟨b0, b1⟩, ⟨p0, p1⟩, ⟨q0, q1⟩⟩ := cr_sv (K7.out)
                    go_wp2_with fail
                    refine (O3.out _).mono ?_
                    clear a0 a1 b0 b1 p0 p1 q0 q1
                    rintro e w8 ⟨rfl, h⟩
                    have K8 := Lib.hid (K7.out.step h)
                    clear h K7
                    go_wp2
                    go_ret
                    exact ⟨retB (by rw [HR.out]; simp [g1, q0, y0, q1, y1, q2, y2, q3] <;> (intro hh; omega)), K8.out.l⟩
                  · skip
                    go_wp2
                    go_ret
                    exact ⟨retB (by rw [HR.out]; simp [g1, q0, y0, q1, y1, q2, y2, q3] <;> (intro hh; omega)), K7.out.l⟩
              · skip
                by_cases q3 : f = 0
                · skip
                  obtain ⟨⟨a0, a1⟩, ⟨b0, b1⟩, ⟨p0, p1⟩, ⟨q0, q1⟩⟩ := cr_sv (K6.out)
                  go_wp2_with fail
                  refine (O3.out _).mono ?_
                  clear a0 a1 b0 b1 p0 p1 q0 q1
                  rintro e w7 ⟨rfl, h⟩
                  have K7 := Lib.hid (K6.out.step h)
                  clear h K6
                  go_wp2
                  go_ret
                  exact ⟨retB (by rw [HR.out]; simp [g1, q0, y0, q1, y1, q2, q3] <;> (intro hh; omega)), K7.out.l⟩
                · skip
                  go_wp2
                  go_ret
                  exact ⟨retB (by rw [HR.out]; simp [g1, q0, y0, q1, y1, q2, q3] <;> (intro hh; omega)), K6.out.l⟩
          · skip
            by_cases q2 : e' = 0
            · skip
              obtain ⟨⟨a0, a1⟩, ⟨b0, b1⟩, ⟨p0, p1⟩, ⟨q0, q1⟩⟩ := cr_sv (K5.out)
              go_wp2_with fail
              refine (O2.out _).mono ?_
              clear a0 a1 b0 b1 p0 p1 q0 q1
              rintro e w6 ⟨rfl, h⟩
              have K6 := Lib.hid (K5.out.step h)
              clear h K5
              by_cases y2 : o2 = true
              · skip
                go_wp2
                go_ret
                exact ⟨retB (by rw [HR.out]; simp [g1, q0, y0, q1, q2, y2] <;> (intro hh; omega)), K6.out.l⟩
              · skip
                by_cases q3 : f = 0
                · skip
                  obtain ⟨⟨a0, a1⟩, ⟨b0, b1⟩, ⟨p0, p1⟩, ⟨q0, q1⟩⟩ := cr_sv (K6.out)
                  go_wp2_with fail
                  refine (O3.out _).mono ?_
                  clear a0 a1 b0 b1 p0 p1 q0 q1
                  rintro e w7 ⟨rfl, h⟩
                  have K7 := Lib.hid (K6.out.step h)
                  clear h K6
                  go_wp2
                  go_ret
                  exact ⟨retB (by rw [HR.out]; simp [g1, q0, y0, q1, q2, y2, q3] <;> (intro hh; omega)), K7.out.l⟩
                · skip
                  go_wp2
                  go_ret
                  exact ⟨retB (by rw [HR.out]; simp [g1, q0, y0, q1, q2, y2, q3] <;> (intro hh; omega)), K6.out.l⟩
            · skip
              by_cases q3 : f = 0
              · skip
                obtain ⟨⟨a0, a1⟩, ⟨b0, b1⟩, ⟨p0, p1⟩, ⟨q0, q1⟩⟩ := cr_sv (K5.out)
                go_wp2_with fail
                refine (O3.out _).mono ?_
                clear a0 a1 b0 b1 p0 p1 q0 q1
                rintro e w6 ⟨rfl, h⟩
                have K6 := Lib.hid (K5.out.step h)
                clear h K5
                go_wp2
                go_ret
                exact ⟨retB (by rw [HR.out]; simp [g1, q0, y0, q1, q2, q3] <;> (intro hh; omega)), K6.out.l⟩
              · skip
                go_wp2
                go_ret
                exact ⟨retB (by rw [HR.out]; simp [g1, q0, y0, q1, q2, q3] <;> (intro hh; omega)), K5.out.l⟩
      · skip
        by_cases q1 : d = 0
        · skip
          obtain ⟨⟨a0, a1⟩, ⟨b0, b1⟩, ⟨p0, p1⟩, ⟨q0, q1⟩⟩ := cr_sv (K4.out)
          go_wp2_with fail
          refine (O1.out _).mono ?_
          clear a0 a1 b0 b1 p0 p1 q0 q1
          rintro e w5 ⟨rfl, h⟩
          have K5 := Lib.hid (K4.out.step h)
          clear h K4
          by_cases y1 : o1 = true
          · skip
            go_wp2
            go_ret
            exact ⟨retB (by rw [HR.out]; simp [g1, q0, q1, y1] <;> (intro hh; omega)), K5.out.l⟩
          · skip
            by_cases q2 : e' = 0
            · skip
              obtain ⟨⟨a0, a1⟩, ⟨b0, b1⟩, ⟨p0, p1⟩, ⟨q0, q1⟩⟩ := cr_sv (K5.out)
              go_wp2_with fail
              refine (O2.out _).mono ?_
              clear a0 a1 b0 b1 p0 p1 q0 q1
              rintro e w6 ⟨rfl, h⟩
              have K6 := Lib.hid (K5.out.step h)
              clear h K5
              by_cases y2 : o2 = true
              · skip
                go_wp2
                go_ret
                exact ⟨retB (by rw [HR.out]; simp [g1, q0, q1, y1, q2, y2] <;> (intro hh; omega)), K6.out.l⟩
              · skip
                by_cases q3 : f = 0
                · skip
                  obtain ⟨⟨a0, a1⟩, ⟨b0, b1⟩, ⟨p0, p1⟩, ⟨q0, q1⟩⟩ := cr_sv (K6.out)
                  go_wp2_with fail
                  refine (O3.out _).mono ?_
                  clear a0 a1 b0 b1 p0 p1 q0 q1
                  rintro e w7 ⟨rfl, h⟩
                  have K7 := Lib.hid (K6.out.step h)
                  clear h K6
                  go_wp2
                  go_ret
                  exact ⟨retB (by rw [HR.out]; simp [g1, q0, q1, y1, q2, y2, q3] <;> (intro hh; omega)), K7.out.l⟩
                · skip
                  go_wp2
                  go_ret
                  exact ⟨retB (by rw [HR.out]; simp [g1, q0, q1, y1, q2, y2, q3] <;> (intro hh; omega)), K6.out.l⟩
            · skip
              by_cases q3 : f = 0
              · skip
                obtain ⟨⟨a0, a1⟩, ⟨b0, b1⟩, ⟨p0, p1⟩, ⟨q0, q1⟩⟩ := cr_sv (K5.out)
                go_wp2_with fail
                refine (O3.out _).mono ?_
                clear a0 a1 b0 b1 p0 p1 q0 q1
                rintro e w6 ⟨rfl, h⟩
                have K6 := Lib.hid (K5.out.step h)
                clear h K5
                go_wp2
                go_ret
                exact ⟨retB (by rw [HR.out]; simp [g1, q0, q1, y1, q2, q3] <;> (intro hh; omega)), K6.out.l⟩
              · skip
                go_wp2
                go_ret
                exact ⟨retB (by rw [HR.out]; simp [g1, q0, q1, y1, q2, q3] <;> (intro hh; omega)), K5.out.l⟩
        · skip
          by_cases q2 : e' = 0
          · skip
            obtain ⟨⟨a0, a1⟩, ⟨b0, b1⟩, ⟨p0, p1⟩, ⟨q0, q1⟩⟩ := cr_sv (K4.out)
            go_wp2_with fail
            refine (O2.out _).mono ?_
            clear a0 a1 b0 b1 p0 p1 q0 q1
            rintro e w5 ⟨rfl, h⟩
            have K5 := Lib.hid (K4.out.step h)
            clear h K4
            by_cases y2 : o2 = true
            · skip
              go_wp2
              go_ret
              exact ⟨retB (by rw [HR.out]; simp [g1, q0, q1, q2, y2] <;> (intro hh; omega)), K5.out.l⟩
            · skip
              by_cases q3 : f = 0
              · skip
                obtain ⟨⟨a0, a1⟩, ⟨b0, b1⟩, ⟨p0, p1⟩, ⟨q0, q1⟩⟩ := cr_sv (K5.out)
                go_wp2_with fail
                refine (O3.out _).mono ?_
                clear a0 a1 b0 b1 p0 p1 q0 q1
                rintro e w6 ⟨rfl, h⟩
                have K6 := Lib.hid (K5.out.step h)
                clear h K5
                go_wp2
                go_ret
                exact ⟨retB (by rw [HR.out]; simp [g1, q0, q1, q2, y2, q3] <;> (intro hh; omega)), K6.out.l⟩
              · skip
                go_wp2
                go_ret
                exact ⟨retB (by rw [HR.out]; simp [g1, q0, q1, q2, y2, q3] <;> (intro hh; omega)), K5.out.l⟩
          · skip
            by_cases q3 : f = 0
            · skip
              obtain ⟨⟨a0, a1⟩, ⟨b0, b1⟩, ⟨p0, p1⟩, ⟨q0, q1⟩⟩ := cr_sv (K4.out)
              go_wp2_with fail
              refine (O3.out _).mono ?_
              clear a0 a1 b0 b1 p0 p1 q0 q1
              rintro e w5 ⟨rfl, h⟩
              have K5 := Lib.hid (K4.out.step h)
              clear h K4
              go_wp2
              go_ret
              exact ⟨retB (by rw [HR.out]; simp [g1, q0, q1, q2, q3] <;> (intro hh; omega)), K5.out.l⟩
            · skip
              go_wp2
              go_ret
              exact ⟨retB (by rw [HR.out]; simp [g1, q0, q1, q2, q3] <;> (intro hh; omega)), K4.out.l⟩
  · have hP : ¬ (Pt.near ⟨ax, ay⟩ ∧ Pt.near ⟨bx, by'⟩ ∧ Pt.near ⟨px, py⟩ ∧ Pt.near ⟨qx, qy⟩) := h
    have EE : meetsP ⟨ax, ay⟩ ⟨bx, by'⟩ ⟨px, py⟩ ⟨qx, qy⟩ = false := by unfold meetsP; rw [decide_eq_false hP]; rfl
    rw [EE]
    have N := Lib.hid (fun (n : Nat) (W : World) (B : BW W n [.int .i64 ax, .int .i64 ay, .int .i64 bx, .int .i64 by', .int .i64 px, .int .i64 py, .int .i64 qx, .int .i64 qy]) => rNear4_any ax ay bx by' px py qx qy n W B)
    rw [decide_eq_false h] at N
    clear h hP EE
    go_enter Try.func36, Try.ntmps36
    go_wp2_with fail
    refine (N.out _ _ (BW.new _ _ [_, _, _, _, _, _, _, _] _ (by simp))).mono ?_
    rintro e w1 ⟨rfl, rfl⟩
    go_wp2
    go_ret
    exact ⟨rfl, by repeat (first | exact Below.refl _ _ | assumption | refine Below.setCell ?_ (by first | omega | (simp; done) | (simp; omega)) _ | refine Below.alloc ?_ (by first | omega | (simp; done) | (simp; omega)) _ | refine below_drewN ?_ _ | refine Below.drew ?_ | refine Below.trans ?_ (Below.mono (by assumption) (by first | omega | (simp; done) | (simp; omega))))⟩
end Go.Proofs.Ytllkhgcokbpggaa
namespace Go.Proofs.Ytllkhgcokbpggaa
open Go.RowKit
set_option linter.unusedVariables false
set_option linter.unusedSimpArgs false

def sqP (a b : Pt) : Int := (b.x - a.x) * (b.x - a.x) + (b.y - a.y) * (b.y - a.y)
/-- how far a place is behind a stretch -/
noncomputable def beyondN (a b p : Pt) : Int := if (a.near ∧ b.near ∧ p.near) ∧ area a b p < 0 ∧ 0 ≤ dotP a b p ∧ 0 ≤ dotP b a p then -(area a b p / rootI (sqP a b)) else 0
theorem sq_nn' (x : Int) : 0 ≤ x * x := by
  rcases Int.le_total 0 x with h | h
  · exact Int.mul_nonneg h h
  · have := Int.mul_nonneg (show 0 ≤ -x by omega) (show 0 ≤ -x by omega)
    have e : -x * -x = x * x := by grind
    omega
/-- an area is no more than 2^51 times the length, rounded down -/
theorem area_top {a b p : Pt} (ha : a.near) (hb : b.near) (hp : p.near) (h : area a b p < 0) : 1 ≤ rootI (sqP a b) ∧ rootI (sqP a b) ≤ 1125899906842624 ∧ -(area a b p) ≤ rootI (sqP a b) * 2251799813685248 ∧ In128 (sqP a b) := by
  unfold Pt.near Rg at *
  have q1 := mul_49 (x := b.x - a.x) (y := b.x - a.x) (by omega) (by omega) (by omega) (by omega)
  have q2 := mul_49 (x := b.y - a.y) (y := b.y - a.y) (by omega) (by omega) (by omega) (by omega)
  have q3 := mul_49 (x := p.x - a.x) (y := p.x - a.x) (by omega) (by omega) (by omega) (by omega)
  have q4 := mul_49 (x := p.y - a.y) (y := p.y - a.y) (by omega) (by omega) (by omega) (by omega)
  have n1 := sq_nn' (b.x - a.x)
  have n2 := sq_nn' (b.y - a.y)
  have n3 := sq_nn' (p.x - a.x)
  have n4 := sq_nn' (p.y - a.y)
  have n5 := sq_nn' (dotP a b p)
  have E : area a b p * area a b p + dotP a b p * dotP a b p = sqP a b * ((p.x - a.x) * (p.x - a.x) + (p.y - a.y) * (p.y - a.y)) := by unfold area dotP sqP; grind
  have S0 : 0 ≤ sqP a b ∧ sqP a b ≤ 633825300114114700748351602688 := by unfold sqP; omega
  have S1 : sqP a b ≠ 0 := by
    intro e
    rw [e, Int.zero_mul] at E
    have := sq_nn' (area a b p)
    have z : area a b p * area a b p = 0 := by omega
    have := Int.mul_pos_of_neg_of_neg h h
    omega
  have R := rootI_is S0.1
  generalize rootI (sqP a b) = L at *
  obtain ⟨L0, lo, hi⟩ := R
  have L1 : 1 ≤ L := by
    apply Classical.byContradiction; intro c
    have : L = 0 := by omega
    subst this
    omega
  have L2 : L ≤ 1125899906842624 := by
    apply Classical.byContradiction; intro c
    have := Int.mul_le_mul (show 1125899906842624 ≤ L by omega) (show 1125899906842624 ≤ L by omega) (by omega) (by omega)
    omega
  refine ⟨L1, L2, ?_, by unfold In128; omega⟩
  apply Classical.byContradiction; intro c
  obtain ⟨A, hA⟩ : ∃ A, -(area a b p) = A := ⟨_, rfl⟩
  rw [hA] at c
  have EA : area a b p * area a b p = A * A := by rw [← hA]; grind
  rw [EA] at E
  have T1 : (p.x - a.x) * (p.x - a.x) + (p.y - a.y) * (p.y - a.y) ≤ 633825300114114700748351602688 := by omega
  have T2 := Int.mul_le_mul_of_nonneg_left T1 S0.1
  have H := Int.mul_le_mul (show L + 1 ≤ 2 * L by omega) (show L + 1 ≤ 2 * L by omega) (by omega) (by omega)
  have H2 : 2 * L * (2 * L) = 4 * (L * L) := by grind
  have K := Int.mul_le_mul (show L * 2251799813685248 ≤ A by omega) (show L * 2251799813685248 ≤ A by omega) (by omega) (by omega)
  have K2 : L * 2251799813685248 * (L * 2251799813685248) = 5070602400912917605986812821504 * (L * L) := by grind
  have M := Int.mul_le_mul L1 L1 (by omega) (by omega)
  generalize L * L = q at *
  generalize A * A = AA at *
  omega
/-- t bits are open: the number lies behind n, and is at most n + 2^t -/
structure OpenB (A L n : Int) (t : Nat) : Prop where
  lo : n * L < A
  hi : A ≤ (n + 2 ^ t) * L
  n0 : 0 ≤ n
  top : n + 2 ^ t ≤ 9223372036854775808
theorem OpenB.up {A L n : Int} {u : Nat} (k : OpenB A L n (u + 1)) (h : (n + 2 ^ u) * L < A) : OpenB A L (n + 2 ^ u) u := by
  obtain ⟨lo, hi, n0, top⟩ := k
  rw [Int.pow_succ] at hi top
  have : (0 : Int) < 2 ^ u := Int.pow_pos (by omega)
  exact ⟨h, by rw [show n + 2 ^ u + 2 ^ u = n + 2 ^ u * 2 by omega]; exact hi, by omega, by omega⟩
theorem OpenB.down {A L n : Int} {u : Nat} (k : OpenB A L n (u + 1)) (h : ¬ (n + 2 ^ u) * L < A) : OpenB A L n u := by
  obtain ⟨lo, hi, n0, top⟩ := k
  rw [Int.pow_succ] at hi top
  have : (0 : Int) < 2 ^ u := Int.pow_pos (by omega)
  exact ⟨lo, by omega, n0, by omega⟩
theorem OpenB.fits {A L n : Int} {u : Nat} (k : OpenB A L n (u + 1)) : ∃ p : Int, IntKind.i64.wrap (2 ^ u) = p ∧ 1 ≤ p ∧ n + p ≤ 9223372036854775807 ∧ Hid (p = 2 ^ u) := by
  obtain ⟨lo, hi, n0, top⟩ := k
  rw [Int.pow_succ] at hi top
  have : (0 : Int) < 2 ^ u := Int.pow_pos (by omega)
  exact ⟨2 ^ u, IntWalk.i64_in _ (by omega), by omega, by omega, rfl⟩
theorem OpenB.done {A L n : Int} (k : OpenB A L n 0) (hL : 1 ≤ L) (hA : A ≤ L * 2251799813685248) : n + 1 = -(-A / L) ∧ n < 2251799813685248 := by
  obtain ⟨lo, hi, n0, top⟩ := k
  simp only [Int.pow_zero] at hi
  have e1 : -(n + 1) * L = -((n + 1) * L) := by grind
  have e2 : -n * L = -(n * L) := by grind
  have h1 : -(n + 1) ≤ -A / L := Int.le_ediv_of_mul_le (by omega) (by omega)
  have h2 : -A / L < -n := Int.ediv_lt_of_lt_mul (by omega) (by omega)
  refine ⟨by omega, ?_⟩
  apply Classical.byContradiction; intro c
  have := Int.mul_le_mul_of_nonneg_right (show 2251799813685248 ≤ n by omega) (show 0 ≤ L by omega)
  omega
theorem OpenB.calls {A L n : Int} {u : Nat} (k : OpenB A L n (u + 1)) (h1 : 1 ≤ L) (h2 : L ≤ 1125899906842624) :
    ∃ q : Int, IntKind.i64.wrap (2 ^ u) = q ∧ wrap64 (2 ^ u) = q ∧ IntKind.i64.wrap (n + q) = n + q ∧ wrap64 (n + q) = n + q ∧ (-9223372036854775808 ≤ n + q ∧ n + q ≤ 9223372036854775807) ∧ In128 ((n + q) * L) ∧ ((n + q) * L < A → OpenB A L (n + q) u) ∧ (¬ (n + q) * L < A → OpenB A L n u) := by
  obtain ⟨q, hq, q1, q2, HQ⟩ := k.fits
  have n0 := k.n0
  have hw : wrap64 (2 ^ u) = q := by
    have e := HQ.out
    rw [← e]; clear hq e HQ k; unfold wrap64; omega
  refine ⟨q, hq, hw, IntWalk.i64_in _ (by clear hq hw; omega), by clear hq hw; unfold wrap64; omega, ⟨by clear hq hw; omega, q2⟩, ?_, fun g => ?_, fun g => ?_⟩
  · exact mul_128 (by clear hq hw; omega) q2 (by omega) (by omega)
  · have := k.up (by rw [← HQ.out]; exact g)
    rw [← HQ.out] at this; exact this
  · exact k.down (by rw [← HQ.out]; exact g)
theorem cmpI_neg_iff {a b : Int} : (cmpI a b < 0) ↔ a < b := by unfold cmpI; split <;> (try split) <;> omega
/-- the blocks of Beyond -/
def BdL (w : World) (ax ay bx by' px py : Int) : List (Nat × List Value) := [(w.heap.size, [.int .i64 ax, .int .i64 ay]), (w.heap.size + 1, [.int .i64 bx, .int .i64 by']), (w.heap.size + 1 + 1, [.int .i64 px, .int .i64 py])]
theorem bd_sv {w W : World} {ax ay bx by' px py : Int} (k : St w W (BdL w ax ay bx by' px py)) : (W.cell? ⟨w.heap.size, 0, none⟩ = some (.int .i64 ax) ∧ W.cell? ⟨w.heap.size, 1, none⟩ = some (.int .i64 ay)) ∧ (W.cell? ⟨w.heap.size + 1, 0, none⟩ = some (.int .i64 bx) ∧ W.cell? ⟨w.heap.size + 1, 1, none⟩ = some (.int .i64 by')) ∧ (W.cell? ⟨w.heap.size + 1 + 1, 0, none⟩ = some (.int .i64 px) ∧ W.cell? ⟨w.heap.size + 1 + 1, 1, none⟩ = some (.int .i64 py)) :=
  ⟨(k.b _ _ (by unfold BdL; simp)).h2', (k.b _ _ (by unfold BdL; simp)).h2', (k.b _ _ (by unfold BdL; simp)).h2'⟩
theorem bd_z {w W : World} {ax ay bx by' px py : Int} (k : St w W (BdL w ax ay bx by' px py)) : w.heap.size + 1 + 1 < W.heap.size := (k.b (w.heap.size + 1 + 1) [.int .i64 px, .int .i64 py] (by unfold BdL; simp)).lt
theorem bd_new {w : World} {ax ay bx by' px py : Int} {W : World} (h0 : BW W w.heap.size [.int .i64 ax, .int .i64 ay]) (h1 : BW W (w.heap.size + 1) [.int .i64 bx, .int .i64 by']) (h2 : BW W (w.heap.size + 1 + 1) [.int .i64 px, .int .i64 py]) (h : Below w.heap.size w W) : St w W (BdL w ax ay bx by' px py) :=
  St.cons h0 (St.cons h1 (St.cons h2 (St.nil h)))
set_option maxRecDepth 100000 in
set_option maxHeartbeats 8000000 in
theorem rBeyond_any (ax ay bx by' px py : Int) (w : World) :
    Calls Try.prog 38 #[.agg #[.int .i64 ax, .int .i64 ay], .agg #[.int .i64 bx, .int .i64 by'], .agg #[.int .i64 px, .int .i64 py]] w fun e w' => e = .returned (.int .i64 (beyondN ⟨ax, ay⟩ ⟨bx, by'⟩ ⟨px, py⟩)) ∧ Below w.heap.size w w' := by
  by_cases h : (Rg ax ∧ Rg ay) ∧ (Rg bx ∧ Rg by') ∧ (Rg px ∧ Rg py)
  · have N := Lib.hid (fun (n : Nat) (W : World) (B : BW W n [.int .i64 ax, .int .i64 ay, .int .i64 bx, .int .i64 by', .int .i64 px, .int .i64 py]) => rNear3_any ax ay bx by' px py n W B)
    rw [decide_eq_true h] at N
    have hP : Pt.near ⟨ax, ay⟩ ∧ Pt.near ⟨bx, by'⟩ ∧ Pt.near ⟨px, py⟩ := h
    have X0 := Lib.hid (fun (W : World) => rSide_any ax ay bx by' px py W)
    have SE : sideP ⟨ax, ay⟩ ⟨bx, by'⟩ ⟨px, py⟩ = sgnA (area ⟨ax, ay⟩ ⟨bx, by'⟩ ⟨px, py⟩) := if_pos hP
    rw [SE] at X0
    have X1 := Lib.hid (fun (W : World) => rPDot_any ax ay bx by' px py _ W h.1.1 h.1.2 h.2.1.1 h.2.1.2 h.2.2.1 h.2.2.2 rfl)
    have X2 := Lib.hid (fun (W : World) => rPDot_any bx by' ax ay px py _ W h.2.1.1 h.2.1.2 h.1.1 h.1.2 h.2.2.1 h.2.2.2 rfl)
    have X3 := Lib.hid (fun (W : World) => rArea_any ax ay bx by' px py _ W h.1.1 h.1.2 h.2.1.1 h.2.1.2 h.2.2.1 h.2.2.2 rfl)
    have F1 := (dotP_fit h.1.1 h.1.2 h.2.1.1 h.2.1.2 h.2.2.1 h.2.2.2).2.2.2
    have F2 := (dotP_fit h.2.1.1 h.2.1.2 h.1.1 h.1.2 h.2.2.1 h.2.2.2).2.2.2
    have F3 := (area_fit h.1.1 h.1.2 h.2.1.1 h.2.1.2 h.2.2.1 h.2.2.2).2.2.2.2
    have S1 := Lib.hid (fun (W : World) => rSign_any _ W F1)
    have S2 := Lib.hid (fun (W : World) => rSign_any _ W F2)
    have X4 := Lib.hid (fun (W : World) => rOpposite_any _ W F3)
    have TOP := Lib.hid (fun (g : area ⟨ax, ay⟩ ⟨bx, by'⟩ ⟨px, py⟩ < 0) => area_top hP.1 hP.2.1 hP.2.2 g)
    have HB := Lib.hid (show (if area ⟨ax, ay⟩ ⟨bx, by'⟩ ⟨px, py⟩ < 0 ∧ 0 ≤ dotP ⟨ax, ay⟩ ⟨bx, by'⟩ ⟨px, py⟩ ∧ 0 ≤ dotP ⟨bx, by'⟩ ⟨ax, ay⟩ ⟨px, py⟩ then -(area ⟨ax, ay⟩ ⟨bx, by'⟩ ⟨px, py⟩ / rootI (sqP ⟨ax, ay⟩ ⟨bx, by'⟩)) else 0) = beyondN ⟨ax, ay⟩ ⟨bx, by'⟩ ⟨px, py⟩ by
      unfold beyondN; simp only [hP, true_and])
    have HS : sqP ⟨ax, ay⟩ ⟨bx, by'⟩ = (bx - ax) * (bx - ax) + (by' - ay) * (by' - ay) := rfl
    rw [HS] at TOP HB
    generalize beyondN ⟨ax, ay⟩ ⟨bx, by'⟩ ⟨px, py⟩ = r at *
    generalize area ⟨ax, ay⟩ ⟨bx, by'⟩ ⟨px, py⟩ = s at *
    generalize dotP ⟨ax, ay⟩ ⟨bx, by'⟩ ⟨px, py⟩ = D1 at *
    generalize dotP ⟨bx, by'⟩ ⟨ax, ay⟩ ⟨px, py⟩ = D2 at *
    have W1 : IntKind.i64.wrap (bx - ax) = bx - ax := IntWalk.i64_in _ (by unfold Rg at *; omega)
    have W2 : IntKind.i64.wrap (by' - ay) = by' - ay := IntWalk.i64_in _ (by unfold Rg at *; omega)
    have W3 : wrap64 (bx - ax) = bx - ax := by unfold wrap64; unfold Rg at *; omega
    have W4 : wrap64 (by' - ay) = by' - ay := by unfold wrap64; unfold Rg at *; omega
    have q1 := mul_49 (x := bx - ax) (y := bx - ax) (by unfold Rg at h; omega) (by unfold Rg at h; omega) (by unfold Rg at h; omega) (by unfold Rg at h; omega)
    have q2 := mul_49 (x := by' - ay) (y := by' - ay) (by unfold Rg at h; omega) (by unfold Rg at h; omega) (by unfold Rg at h; omega) (by unfold Rg at h; omega)
    have Y1 := Lib.hid (fun (W : World) => rMul_any (bx - ax) (bx - ax) W (by unfold Rg at h; omega) (by unfold Rg at h; omega) (by unfold Rg at h; omega) (by unfold Rg at h; omega))
    have Y2 := Lib.hid (fun (W : World) => rMul_any (by' - ay) (by' - ay) W (by unfold Rg at h; omega) (by unfold Rg at h; omega) (by unfold Rg at h; omega) (by unfold Rg at h; omega))
    have i1 : In128 ((bx - ax) * (bx - ax) + (by' - ay) * (by' - ay)) := by unfold In128; omega
    have Y3 := Lib.hid (fun (W : World) => rAdd_any ((bx - ax) * (bx - ax)) ((by' - ay) * (by' - ay)) W (by unfold In128; omega) (by unfold In128; omega))
    rw [show clipW ((bx - ax) * (bx - ax) + (by' - ay) * (by' - ay)) = (bx - ax) * (bx - ax) + (by' - ay) * (by' - ay) from if_pos i1] at Y3
    have Y4 := Lib.hid (fun (W : World) => rRoot_any ((bx - ax) * (bx - ax) + (by' - ay) * (by' - ay)) W i1)
    generalize hQ : (bx - ax) * (bx - ax) + (by' - ay) * (by' - ay) = Q at *
    clear hQ q1 q2 i1 HS
    generalize (bx - ax) * (bx - ax) = Q1 at *
    generalize (by' - ay) * (by' - ay) = Q2 at *
    generalize hx : bx - ax = x at *
    generalize hy : by' - ay = y at *
    generalize rootI Q = L at *
    generalize fitW Q = fw at *
    obtain ⟨A, hA⟩ : ∃ A, -s = A := ⟨_, rfl⟩
    have HA := Lib.hid hA
    rw [hA] at X4
    clear hA F1 F2 h hP SE
    go_enter Try.func38, Try.ntmps38
    go_wp2_with fail
    refine (N.out _ _ (BW.new _ _ [_, _, _, _, _, _] _ (by simp))).mono ?_
    rintro e w1 ⟨rfl, rfl⟩
    go_wp2_with fail
    refine calls_gen (S := fun W => St w W (BdL w ax ay bx by' px py)) (bd_new ((((BW.new w w.heap.size [_, _] _ rfl).alloc _).alloc _).alloc _) (((BW.new _ _ [_, _] _ (by simp)).alloc _).alloc _) ((BW.new _ _ [_, _] _ (by simp)).alloc _) (by repeat (first | exact Below.refl _ _ | assumption | refine Below.setCell ?_ (by first | omega | (simp; done) | (simp; omega)) _ | refine Below.alloc ?_ (by first | omega | (simp; done) | (simp; omega)) _ | refine below_drewN ?_ _ | refine Below.drew ?_ | refine Below.trans ?_ (Below.mono (by assumption) (by first | omega | (simp; done) | (simp; omega)))))) (fun W0 hS => ?_)
    have K0 := Lib.hid hS
    clear hS N
    refine (X0.out _).mono ?_
    rintro e w1 ⟨rfl, h⟩
    have K1 := Lib.hid (K0.out.step h)
    clear h K0
    by_cases c1 : s < 0
    · have c1a : ¬ 0 ≤ sgnA s := by unfold sgnA; rw [if_pos c1]; omega
      obtain ⟨⟨a0, a1⟩, ⟨b0, b1⟩, ⟨p0, p1⟩⟩ := bd_sv (K1.out)
      go_wp2_with fail
      refine (X1.out _).mono ?_
      clear a0 a1 b0 b1 p0 p1
      rintro e w2 ⟨rfl, h⟩
      have K2 := Lib.hid (K1.out.step h)
      clear h K1
      go_wp2_with fail
      refine (S1.out _).mono ?_
      rintro e w3 ⟨rfl, h⟩
      have K3 := Lib.hid (K2.out.step h)
      clear h K2
      by_cases c2 : D1 < 0
      · have c2a : cmpI D1 0 < 0 := cmpI_neg_iff.2 c2
        have EE : r = 0 := by rw [← HB.out]; exact if_neg (by rintro ⟨g1, g2, g3⟩; omega)
        go_wp2
        go_ret
        exact ⟨retI EE.symm, K3.out.l⟩
      · have c2a : ¬ cmpI D1 0 < 0 := fun g => c2 (cmpI_neg_iff.1 g)
        obtain ⟨⟨a0, a1⟩, ⟨b0, b1⟩, ⟨p0, p1⟩⟩ := bd_sv (K3.out)
        go_wp2_with fail
        refine (X2.out _).mono ?_
        clear a0 a1 b0 b1 p0 p1
        rintro e w4 ⟨rfl, h⟩
        have K4 := Lib.hid (K3.out.step h)
        clear h K3
        go_wp2_with fail
        refine (S2.out _).mono ?_
        rintro e w5 ⟨rfl, h⟩
        have K5 := Lib.hid (K4.out.step h)
        clear h K4
        by_cases c3 : D2 < 0
        · have c3a : cmpI D2 0 < 0 := cmpI_neg_iff.2 c3
          have EE : r = 0 := by rw [← HB.out]; exact if_neg (by rintro ⟨g1, g2, g3⟩; omega)
          go_wp2
          go_ret
          exact ⟨retI EE.symm, K5.out.l⟩
        · have c3a : ¬ cmpI D2 0 < 0 := fun g => c3 (cmpI_neg_iff.1 g)
          have T := TOP.out c1
          have HR := Lib.hid (show -(-A / L) = r by rw [← HB.out, if_pos ⟨c1, by omega, by omega⟩, ← HA.out, Int.neg_neg])
          have HL := Lib.hid T
          have A0 : 0 < A := by have := HA.out; omega
          have LU : IntKind.i64.wrap L = L := IntWalk.i64_in _ (by omega)
          have A1 : In128 A := by rw [← HA.out]; unfold In128 at *; omega
          have HO := Lib.hid (show OpenB A L 0 63 from ⟨by omega, by have := HL.out.2.2.1; rw [HA.out] at this; rw [show (0 : Int) + 2 ^ 63 = 9223372036854775808 from rfl]; omega, by omega, by decide⟩)
          have HF := Lib.hid (And.intro A0 A1)
          have HB2 := Lib.hid (show -9223372036854775808 ≤ L ∧ L ≤ 9223372036854775807 by omega)
          have lw : wrap64 L = L := by unfold wrap64; omega
          clear TOP HB T A0 A1 F3 c1 c2 c3
          obtain ⟨⟨a0, a1⟩, ⟨b0, b1⟩, ⟨p0, p1⟩⟩ := bd_sv (K5.out)
          go_wp2_with fail
          refine (X3.out _).mono ?_
          clear a0 a1 b0 b1 p0 p1
          rintro e w6 ⟨rfl, h⟩
          have K6 := Lib.hid (K5.out.step h)
          clear h K5
          go_wp2_with fail
          refine (X4.out _).mono ?_
          rintro e w7 ⟨rfl, h⟩
          have K7 := Lib.hid (K6.out.step h)
          clear h K6
          obtain ⟨⟨a0, a1⟩, ⟨b0, b1⟩, ⟨p0, p1⟩⟩ := bd_sv (K7.out)
          have z1 : w.heap.size + 1 + 1 < w7.heap.size := bd_z K7.out
          have z1b : w.heap.size + 1 < w7.heap.size := by omega
          have z1c : w.heap.size < w7.heap.size := by omega
          go_wp2_with fail
          refine calls_gen (S := fun W => St w W [(w7.heap.size, [.bool (decide (A < 0)), .int .u64 (d0 (A).natAbs), .int .u64 (d1 (A).natAbs), .int .u64 (d2 (A).natAbs), .int .u64 (d3 (A).natAbs)])]) (St.cons (BW.new w7 _ [_, _, _, _, _] _ rfl) (St.nil (K7.out.alloc _).l)) (fun W8 hS => ?_)
          clear a0 a1 b0 b1 p0 p1
          clear K7 X0 X1 X2 X3 X4 S1 S2 c1a c2a c3a
          generalize w7.heap.size = n1 at *
          have K8 := Lib.hid hS
          clear hS
          refine (Y1.out _).mono ?_
          rintro e w9 ⟨rfl, h⟩
          have K9 := Lib.hid (K8.out.step h)
          clear h K8
          go_wp2_with fail
          refine (Y2.out _).mono ?_
          rintro e w10 ⟨rfl, h⟩
          have K10 := Lib.hid (K9.out.step h)
          clear h K9
          go_wp2_with fail
          refine (Y3.out _).mono ?_
          rintro e w11 ⟨rfl, h⟩
          have K11 := Lib.hid (K10.out.step h)
          clear h K10
          go_wp2_with fail
          refine calls_gen (S := fun W => St w W [(n1, [.bool (decide (A < 0)), .int .u64 (d0 (A).natAbs), .int .u64 (d1 (A).natAbs), .int .u64 (d2 (A).natAbs), .int .u64 (d3 (A).natAbs)])]) (K11.out.alloc _) (fun W12 hS => ?_)
          clear K11
          have K12 := Lib.hid hS
          clear hS
          refine (Y4.out _).mono ?_
          rintro e w13 ⟨rfl, h⟩
          have K13 := Lib.hid (K12.out.step h)
          clear h K12
          clear Y1 Y2 Y3 Y4 hx hy W1 W2 W3 W4 z1 z1b z1c
          go_wp2
          go_loopw [13, 14] (fun v i wr => ∃ (t : Nat) (n : Int), t ≤ 63 ∧ i = .int .i64 ((t : Int) - 1) ∧ v = .int .i64 n ∧ OpenB A L n t ∧ St w wr [(n1, [.bool (decide (A < 0)), .int .u64 (d0 (A).natAbs), .int .u64 (d1 (A).natAbs), .int .u64 (d2 (A).natAbs), .int .u64 (d3 (A).natAbs)])]) (fun _ i _ => (intOf i + 1).toNat)
          case atStart => exact ⟨63, 0, by omega, by go_num, rfl, HO.out, K13.out⟩
          case round =>
            clear K13 HO
            obtain ⟨tt, n, ht, rfl, rfl, OB, KK⟩ := hrel
            have K0 := Lib.hid KK.drew
            have K00 := Lib.hid KK
            clear KK
            cases tt with
            | zero =>
              have DN := OB.done HL.out.1 (by have := HL.out.2.2.1; rw [HA.out] at this; exact this)
              have n0 := OB.n0
              have F := Lib.hid (DN.1.trans HR.out)
              have v1 : IntKind.i64.wrap (n + 1) = n + 1 := IntWalk.i64_in _ (by omega)
              have v2 : wrap64 (n + 1) = n + 1 := by unfold wrap64; omega
              rw [show (((0 : Nat) : Int) - 1) = -1 from rfl]
              clear OB DN
              go_wp2
              go_ret
              exact ⟨retI F.out, K00.out.l⟩
            | succ u =>
              obtain ⟨q, hq, v3, v1, v2, hb, hm, up, dn⟩ := OB.calls HL.out.1 HL.out.2.1
              rw [show (((u + 1 : Nat) : Int) - 1) = u by omega]
              have Z1 := Lib.hid (fun (W : World) => rMul_any (n + q) L W hb.1 hb.2 HB2.out.1 HB2.out.2)
              have Z2 := Lib.hid (fun (W : World) => rCmp_any ((n + q) * L) A W hm HF.out.2)
              have UP := Lib.hid up
              have DO := Lib.hid dn
              obtain ⟨M, hM⟩ : ∃ M, (n + q) * L = M := ⟨_, rfl⟩
              rw [hM] at Z1 Z2 UP DO
              clear OB hM up dn hm hb K00
              go_wp2_with fail
              refine wp_region_held_drew (S := fun W => (W.cell? ⟨n1, 0, none⟩ = some (.bool (decide (A < 0))) ∧ W.cell? ⟨n1, 1, none⟩ = some (.int .u64 (d0 (A).natAbs)) ∧ W.cell? ⟨n1, 2, none⟩ = some (.int .u64 (d1 (A).natAbs)) ∧ W.cell? ⟨n1, 3, none⟩ = some (.int .u64 (d2 (A).natAbs)) ∧ W.cell? ⟨n1, 4, none⟩ = some (.int .u64 (d3 (A).natAbs)))) (by kernel_rfl) (K0.out.b n1 _ (by simp)).h5 (fun hHeld => ?_)
              generalize wr.drew = wq at *
              refine tkD 0 82 (v := ?_) ?_ hHeld ?_
              rotate_left 1
              (intro W hSw; (try dsimp only at hSw); go_simp; try with_reducible rfl)
              (try simp only [putA, putB, putC, putD])
              refine tkD 1 83 (v := ?_) ?_ hHeld ?_
              rotate_left 1
              (intro W hSw; (try dsimp only at hSw); go_simp; try with_reducible rfl)
              (try simp only [putA, putB, putC, putD])
              refine tkD 3 85 (v := ?_) ?_ hHeld ?_
              rotate_left 1
              (intro W hSw; (try dsimp only at hSw); go_simp; try with_reducible rfl)
              (try simp only [putA, putB, putC, putD])
              refine onlD 2 (fun K hK => ?_)
              go_simp
              refine (Z1.out _).mono ?_
              rintro e w1 ⟨rfl, h⟩
              have K1 := Lib.hid (K0.out.step h)
              go_wp2_with fail
              refine hK.out _ _ ((K1.out.b n1 _ (by simp)).h5) ?_
              clear hK K hHeld
              intro hHeld
              clear h K0
              refine onlD 4 (fun K hK => ?_)
              go_simp
              refine (Z2.out _).mono ?_
              rintro e w2 ⟨rfl, h⟩
              have K2 := Lib.hid (K1.out.step h)
              go_wp2_with fail
              refine hK.out _ _ ((K2.out.b n1 _ (by simp)).h5) ?_
              clear hK K hHeld
              intro hHeld
              clear h K1
              refine tkD 5 87 (v := ?_) ?_ hHeld ?_
              rotate_left 1
              (intro W hSw; (try dsimp only at hSw); go_simp; try with_reducible rfl)
              (try simp only [putA, putB, putC, putD])
              refine wpAnyH_done (by kernel_rfl) ?_ _
              by_cases g : M < A
              · have t := cmpI_neg_iff.2 g
                have NX := Lib.hid (UP.out g)
                clear g UP DO Z1 Z2
                go_wp2
                go_roundw
                case rel => exact ⟨u, n + q, by omega, by go_num, rfl, NX.out, K2.out⟩
                case measure => simp [intOf]
              · have t : ¬ cmpI M A < 0 := fun k => absurd (cmpI_neg_iff.1 k) (by omega)
                have NX := Lib.hid (DO.out (by omega))
                clear g UP DO Z1 Z2
                go_wp2
                go_roundw
                case rel => exact ⟨u, n, by omega, by go_num, rfl, NX.out, K2.out⟩
                case measure => simp [intOf]
    · have c1a : 0 ≤ sgnA s := by unfold sgnA; rw [if_neg c1]; split <;> omega
      have EE : r = 0 := by rw [← HB.out]; exact if_neg (by rintro ⟨g1, g2, g3⟩; omega)
      go_wp2
      go_ret
      exact ⟨retI EE.symm, K1.out.l⟩
  · have hP : ¬ (Pt.near ⟨ax, ay⟩ ∧ Pt.near ⟨bx, by'⟩ ∧ Pt.near ⟨px, py⟩) := h
    have EE : beyondN ⟨ax, ay⟩ ⟨bx, by'⟩ ⟨px, py⟩ = 0 := if_neg (fun k => hP k.1)
    rw [EE]
    have N := Lib.hid (fun (n : Nat) (W : World) (B : BW W n [.int .i64 ax, .int .i64 ay, .int .i64 bx, .int .i64 by', .int .i64 px, .int .i64 py]) => rNear3_any ax ay bx by' px py n W B)
    rw [decide_eq_false h] at N
    clear h hP EE
    go_enter Try.func38, Try.ntmps38
    go_wp2_with fail
    refine (N.out _ _ (BW.new _ _ [_, _, _, _, _, _] _ (by simp))).mono ?_
    rintro e w1 ⟨rfl, rfl⟩
    go_wp2
    go_ret
    exact ⟨rfl, by repeat (first | exact Below.refl _ _ | assumption | refine Below.setCell ?_ (by first | omega | (simp; done) | (simp; omega)) _ | refine Below.alloc ?_ (by first | omega | (simp; done) | (simp; omega)) _ | refine below_drewN ?_ _ | refine Below.drew ?_ | refine Below.trans ?_ (Below.mono (by assumption) (by first | omega | (simp; done) | (simp; omega))))⟩
end Go.Proofs.Ytllkhgcokbpggaa
