/- The walks of TableRises and TablePoints. -/
import Derived.Test.YtnedecpciioghaaOg
namespace Go.Proofs.Ytnedecpciioghaa
open Go.RowKit
set_option linter.unusedVariables false
set_option linter.unusedSimpArgs false

theorem wrap_prev {i j : Nat} (hj : i + 1 = j) (h : j ≤ 100) : IntKind.i64.wrap ((j : Int) - 1) = (i : Int) ∧ wrap64 ((j : Int) - 1) = (i : Int) ∧ IntKind.i64.wrap (i : Int) = (i : Int) := by
  have e : (j : Int) - 1 = (i : Int) := by omega
  rw [e]
  exact ⟨IntWalk.i64_in _ (by omega), by unfold wrap64; omega, IntWalk.i64_in _ (by omega)⟩
set_option maxRecDepth 100000 in
set_option maxHeartbeats 8000000 in
theorem tblrises_walk (C : TableC) (a : Option Addr) (len cap : Nat) (X Y : Nat → Int) (p q : Int) (w : World) (hp : In64 p) (hq : In64 q) (D : Dots w a len cap X Y) :
    Calls Try.prog 6 #[.slice a len cap, .int .i64 p, .int .i64 q] w fun e w' => e = .returned (.bool true) ∧ Below w.heap.size w w' := by
  have HC := Lib.hid C
  have L0 := Lib.hid (Below.refl w.heap.size w)
  by_cases hm : 100 < len
  · have hm2 : (100 : Int) < len := by omega
    clear C D hp hq
    go_enter Try.func6, Try.ntmps6
    go_wp2_with fail
    refine (tableAwake_any HC.out _).mono ?_
    rintro e w9 ⟨rfl, h⟩
    have L9 := Lib.hid (L0.out.trans (h.mono L0.out.size))
    go_wp2
    go_ret
    exact ⟨rfl, L9.out⟩
  · have hm2 : ¬ (100 : Int) < len := by omega
    have hmax : len ≤ 100 := by omega
    have X1 := Lib.hid (fun (W : World) (D : Dots W a len cap X Y) => C.right a len cap X Y W hmax D)
    by_cases hr : rightN len X Y = 0
    · have R := right_of hr
      rw [hr] at X1
      have N1 := Lib.hid (fun (n : Nat) (hn : w.heap.size ≤ n) (h : 0 < len) => D.off h hn)
      by_cases hpq : q < p
      · have D0 := Lib.hid D
        clear C D R hr hp hq
        go_enter Try.func6, Try.ntmps6
        go_wp2_with fail
        refine (X1.out _ D0.out).mono ?_
        rintro e w1 ⟨rfl, h⟩
        have D1 := Lib.hid (D0.out.below h (Nat.le_refl _))
        have L1 := Lib.hid (L0.out.trans (h.mono L0.out.size))
        clear h D0 L0
        go_wp2_with fail
        refine (tableAwake_any HC.out _).mono ?_
        rintro e w9 ⟨rfl, h⟩
        have L9 := Lib.hid (L1.out.trans (h.mono L1.out.size))
        go_wp2
        go_ret
        exact ⟨rfl, L9.out⟩
      · have XP := Lib.hid (fun (n : Nat) (hn : w.heap.size ≤ n) (W : World) (D : Dots W a len cap X Y) (m : MAt W n 0 false) => C.eval a len cap X Y p n 0 false W hmax hp (N1.out n hn) D m)
        have XQ := Lib.hid (fun (n : Nat) (hn : w.heap.size ≤ n) (W : World) (D : Dots W a len cap X Y) (m : MAt W n 0 false) => C.eval a len cap X Y q n 0 false W hmax hq (N1.out n hn) D m)
        rw [(eval_cases R p).2.1, Bool.or_false] at XP
        rw [(eval_cases R q).2.1, Bool.or_false] at XQ
        have HU := Lib.hid (fun (up : ∀ i, 0 < i → i < len → Y (i - 1) ≤ Y i) => eval_rises R up (show p ≤ q by omega))
        have hl2 : 1 < len := by have := R.lo; omega
        generalize evalN len X Y p = ep at *
        generalize evalN len X Y q = eq' at *
        have D0 := Lib.hid D
        clear C D R hr hp hq
        go_enter Try.func6, Try.ntmps6
        go_wp2_with fail
        refine (X1.out _ D0.out).mono ?_
        rintro e w1 ⟨rfl, h⟩
        have D1 := Lib.hid (D0.out.below h (Nat.le_refl _))
        have L1 := Lib.hid (L0.out.trans (h.mono L0.out.size))
        clear h D0 L0
        go_wp2
        go_loopw [7] (fun i wr => ∃ j : Nat, 1 ≤ j ∧ j ≤ len ∧ i = .int .i64 j ∧ Hid (∀ k, 0 < k → k < j → Y (k - 1) ≤ Y k) ∧ Dots wr a len cap X Y ∧ Below w.heap.size w wr) (fun i _ => len - (intOf i).toNat)
        case atStart => exact ⟨1, by omega, by omega, rfl, fun k h1 h2 => by omega, D1.out, L1.out⟩
        case round =>
          clear D1 L1 X1
          obtain ⟨j, hj1, hj, rfl, UP, hD, hL⟩ := hrel
          have D0 := Lib.hid hD
          have L0 := Lib.hid hL
          clear hD hL
          by_cases hlt : j < len
          · obtain ⟨i, hij⟩ : ∃ i, i + 1 = j := ⟨j - 1, by omega⟩
            have hil : i < len := by omega
            obtain ⟨v1, v2, v3⟩ := wrap_prev hij (by omega)
            obtain ⟨bs, off, rfl, hb, hcell⟩ := D0.out.at' (by omega)
            have c0 := (hcell j hlt).2
            have c1 := (hcell i hil).2
            clear hcell
            have D1 := Lib.hid (D0.out.below ((Below.refl _ _).drew) (Nat.le_refl _))
            have L1 := Lib.hid L0.out.drew
            have UN := Lib.hid (fun (g : Y i ≤ Y j) (k : Nat) (h1 : 0 < k) (h2 : k < j + 1) => (by
              by_cases e : k = j
              · subst e; rw [show k - 1 = i by omega]; omega
              · exact UP.out k h1 (by omega) : Y (k - 1) ≤ Y k))
            clear D0 L0 UP
            go_wp2_with fail
            refine wp_region_held_drew (S := fun W => W.cell? ⟨bs, off + j * 2 + 1, none⟩ = some (.int .i64 (Y j)) ∧ W.cell? ⟨bs, off + i * 2 + 1, none⟩ = some (.int .i64 (Y i))) (by kernel_rfl) ⟨c0, c1⟩ (fun hHeld => ?_)
            refine wpAnyH_takeD 0 29 (v := ?_) (by kernel_rfl) (by kernel_rfl) (by kernel_rfl) (by kernel_rfl) (by rfl) (fun _ _ _ h => h) ?_ hHeld ?_
            rotate_left 1
            (intro o ho W hSw; simp only [List.getElem?_toArray, List.getElem?_cons_succ, List.getElem?_cons_zero, Option.some.injEq] at ho; subst ho; (try dsimp only at hSw); go_simp; try with_reducible rfl)
            (try simp only [Act.put, List.setIfInBounds_toArray, List.set_cons_zero, List.set_cons_succ])
            refine wpAnyH_takeD 1 30 (v := ?_) (by kernel_rfl) (by kernel_rfl) (by kernel_rfl) (by kernel_rfl) (by rfl) (fun _ _ _ h => h) ?_ hHeld ?_
            rotate_left 1
            (intro o ho W hSw; simp only [List.getElem?_toArray, List.getElem?_cons_succ, List.getElem?_cons_zero, Option.some.injEq] at ho; subst ho; (try dsimp only at hSw); go_simp; try with_reducible rfl)
            (try simp only [Act.put, List.setIfInBounds_toArray, List.set_cons_zero, List.set_cons_succ])
            refine wpAnyH_takeD 2 31 (v := ?_) (by kernel_rfl) (by kernel_rfl) (by kernel_rfl) (by kernel_rfl) (by rfl) (fun _ _ _ h => h) ?_ hHeld ?_
            rotate_left 1
            (intro o ho W hSw; simp only [List.getElem?_toArray, List.getElem?_cons_succ, List.getElem?_cons_zero, Option.some.injEq] at ho; subst ho; (try dsimp only at hSw); go_simp; try with_reducible rfl)
            (try simp only [Act.put, List.setIfInBounds_toArray, List.set_cons_zero, List.set_cons_succ])
            refine wpAnyH_takeD 3 32 (v := ?_) (by kernel_rfl) (by kernel_rfl) (by kernel_rfl) (by kernel_rfl) (by rfl) (fun _ _ _ h => h) ?_ hHeld ?_
            rotate_left 1
            (intro o ho W hSw; simp only [List.getElem?_toArray, List.getElem?_cons_succ, List.getElem?_cons_zero, Option.some.injEq] at ho; subst ho; (try dsimp only at hSw); go_simp; try with_reducible rfl)
            (try simp only [Act.put, List.setIfInBounds_toArray, List.set_cons_zero, List.set_cons_succ])
            refine wpAnyH_takeD 4 33 (v := ?_) (by kernel_rfl) (by kernel_rfl) (by kernel_rfl) (by kernel_rfl) (by rfl) (fun _ _ _ h => h) ?_ hHeld ?_
            rotate_left 1
            (intro o ho W hSw; simp only [List.getElem?_toArray, List.getElem?_cons_succ, List.getElem?_cons_zero, Option.some.injEq] at ho; subst ho; (try dsimp only at hSw); go_simp; try with_reducible rfl)
            (try simp only [Act.put, List.setIfInBounds_toArray, List.set_cons_zero, List.set_cons_succ])
            refine wpAnyH_takeD 5 34 (v := ?_) (by kernel_rfl) (by kernel_rfl) (by kernel_rfl) (by kernel_rfl) (by rfl) (fun _ _ _ h => h) ?_ hHeld ?_
            rotate_left 1
            (intro o ho W hSw; simp only [List.getElem?_toArray, List.getElem?_cons_succ, List.getElem?_cons_zero, Option.some.injEq] at ho; subst ho; (try dsimp only at hSw); go_simp; try with_reducible rfl)
            (try simp only [Act.put, List.setIfInBounds_toArray, List.set_cons_zero, List.set_cons_succ])
            refine wpAnyH_takeD 6 35 (v := ?_) (by kernel_rfl) (by kernel_rfl) (by kernel_rfl) (by kernel_rfl) (by rfl) (fun _ _ _ h => h) ?_ hHeld ?_
            rotate_left 1
            (intro o ho W hSw; simp only [List.getElem?_toArray, List.getElem?_cons_succ, List.getElem?_cons_zero, Option.some.injEq] at ho; subst ho; (try dsimp only at hSw); go_simp; try with_reducible rfl)
            (try simp only [Act.put, List.setIfInBounds_toArray, List.set_cons_zero, List.set_cons_succ])
            refine wpAnyH_takeD 7 36 (v := ?_) (by kernel_rfl) (by kernel_rfl) (by kernel_rfl) (by kernel_rfl) (by rfl) (fun _ _ _ h => h) ?_ hHeld ?_
            rotate_left 1
            (intro o ho W hSw; simp only [List.getElem?_toArray, List.getElem?_cons_succ, List.getElem?_cons_zero, Option.some.injEq] at ho; subst ho; (try dsimp only at hSw); go_simp; try with_reducible rfl)
            (try simp only [Act.put, List.setIfInBounds_toArray, List.set_cons_zero, List.set_cons_succ])
            refine wpAnyH_takeD 8 37 (v := ?_) (by kernel_rfl) (by kernel_rfl) (by kernel_rfl) (by kernel_rfl) (by rfl) (fun _ _ _ h => h) ?_ hHeld ?_
            rotate_left 1
            (intro o ho W hSw; simp only [List.getElem?_toArray, List.getElem?_cons_succ, List.getElem?_cons_zero, Option.some.injEq] at ho; subst ho; (try dsimp only at hSw); go_simp; try with_reducible rfl)
            (try simp only [Act.put, List.setIfInBounds_toArray, List.set_cons_zero, List.set_cons_succ])
            refine wpAnyH_takeD 9 38 (v := ?_) (by kernel_rfl) (by kernel_rfl) (by kernel_rfl) (by kernel_rfl) (by rfl) (fun _ _ _ h => h) ?_ hHeld ?_
            rotate_left 1
            (intro o ho W hSw; simp only [List.getElem?_toArray, List.getElem?_cons_succ, List.getElem?_cons_zero, Option.some.injEq] at ho; subst ho; (try dsimp only at hSw); go_simp; try with_reducible rfl)
            (try simp only [Act.put, List.setIfInBounds_toArray, List.set_cons_zero, List.set_cons_succ])
            refine wpAnyH_takeD 10 39 (v := ?_) (by kernel_rfl) (by kernel_rfl) (by kernel_rfl) (by kernel_rfl) (by rfl) (fun _ _ _ h => h) ?_ hHeld ?_
            rotate_left 1
            (intro o ho W hSw; simp only [List.getElem?_toArray, List.getElem?_cons_succ, List.getElem?_cons_zero, Option.some.injEq] at ho; subst ho; (try dsimp only at hSw); go_simp; try with_reducible rfl)
            (try simp only [Act.put, List.setIfInBounds_toArray, List.set_cons_zero, List.set_cons_succ])
            refine wpAnyH_takeD 11 40 (v := ?_) (by kernel_rfl) (by kernel_rfl) (by kernel_rfl) (by kernel_rfl) (by rfl) (fun _ _ _ h => h) ?_ hHeld ?_
            rotate_left 1
            (intro o ho W hSw; simp only [List.getElem?_toArray, List.getElem?_cons_succ, List.getElem?_cons_zero, Option.some.injEq] at ho; subst ho; (try dsimp only at hSw); go_simp; try with_reducible rfl)
            (try simp only [Act.put, List.setIfInBounds_toArray, List.set_cons_zero, List.set_cons_succ])
            refine wpAnyH_done (by kernel_rfl) ?_ _
            clear hHeld
            by_cases g : Y j < Y i
            · clear UN
              go_wp2_with fail
              refine (tableAwake_any HC.out _).mono ?_
              rintro e w9 ⟨rfl, h⟩
              have L9 := Lib.hid (L1.out.trans (h.mono L1.out.size))
              go_wp2
              go_ret
              exact ⟨rfl, L9.out⟩
            · have UM := Lib.hid (UN.out (by omega))
              clear UN
              go_wp2
              go_roundw
              case rel => exact ⟨j + 1, by omega, by omega, by go_num, UM.out, D1.out, L1.out⟩
              case measure => simp [intOf]; omega
          · have E := Lib.hid (HU.out (fun i h1 h2 => UP.out i h1 (by omega)))
            clear UP HU
            go_wp2_with fail
            refine calls_gen (S := fun W => Own w W wr.heap.size false ∧ Dots W a len cap X Y) ⟨Own.new L0.out _, D0.out.below ((Below.refl wr.heap.size wr).alloc (Nat.le_refl _) _) (Nat.le_refl _)⟩ (fun W1 hS => ?_)
            have hz : w.heap.size ≤ wr.heap.size := L0.out.size
            generalize wr.heap.size = n at *
            have T1 := Lib.hid hS.1
            have D2 := Lib.hid hS.2
            clear hS L0 D0
            refine (XP.out n hz _ D2.out T1.out.a).mono ?_
            rintro e w2 ⟨rfl, h⟩
            have T2 := Lib.hid (T1.out.fst h)
            have D3 := Lib.hid (D2.out.fx h (N1.out n hz))
            clear h T1 D2 XP
            go_wp2_with fail
            refine (XQ.out n hz _ D3.out T2.out.a).mono ?_
            rintro e w3 ⟨rfl, h⟩
            have T3 := Lib.hid (T2.out.fst h)
            clear h T2 D3 XQ
            have e1 := E.out
            go_wp2_with fail
            refine (tableAwake_any HC.out _).mono ?_
            rintro e w9 ⟨rfl, h⟩
            have L9 := Lib.hid (T3.out.bl.trans (h.mono T3.out.bl.size))
            go_wp2
            go_ret
            exact ⟨by simp [e1], L9.out⟩
    · clear C hp hq
      have D0 := Lib.hid D
      generalize rightN len X Y = r at *
      clear D
      go_enter Try.func6, Try.ntmps6
      go_wp2_with fail
      refine (X1.out _ D0.out).mono ?_
      rintro e w1 ⟨rfl, h⟩
      have D1 := Lib.hid (D0.out.below h (Nat.le_refl _))
      have L1 := Lib.hid (L0.out.trans (h.mono L0.out.size))
      clear h D0 L0
      go_wp2_with fail
      refine (tableAwake_any HC.out _).mono ?_
      rintro e w9 ⟨rfl, h⟩
      have L9 := Lib.hid (L1.out.trans (h.mono L1.out.size))
      go_wp2
      go_ret
      exact ⟨rfl, L9.out⟩
set_option maxRecDepth 100000 in
set_option maxHeartbeats 8000000 in
theorem tpoints_walk (C : TableC) (a : Option Addr) (len cap : Nat) (X Y : Nat → Int) (w : World) (D : Dots w a len cap X Y) :
    Calls Try.prog 7 #[.slice a len cap] w fun e w' => e = .returned (.bool true) ∧ Below w.heap.size w w' := by
  have HC := Lib.hid C
  have L0 := Lib.hid (Below.refl w.heap.size w)
  by_cases hm : 100 < len
  · have hm2 : (100 : Int) < len := by omega
    clear C D
    go_enter Try.func7, Try.ntmps7
    go_wp2_with fail
    refine (tableAwake_any HC.out _).mono ?_
    rintro e w9 ⟨rfl, h⟩
    have L9 := Lib.hid (L0.out.trans (h.mono L0.out.size))
    go_wp2
    go_ret
    exact ⟨rfl, L9.out⟩
  · have hm2 : ¬ (100 : Int) < len := by omega
    have hmax : len ≤ 100 := by omega
    have X1 := Lib.hid (fun (W : World) (D : Dots W a len cap X Y) => C.right a len cap X Y W hmax D)
    by_cases hr : rightN len X Y = 0
    · have R := right_of hr
      rw [hr] at X1
      have N1 := Lib.hid (fun (n : Nat) (hn : w.heap.size ≤ n) (h : 0 < len) => D.off h hn)
      have XP := Lib.hid (fun (j : Nat) (hj : j < len) (n : Nat) (hn : w.heap.size ≤ n) (W : World) (D : Dots W a len cap X Y) (m : MAt W n 0 false) => (by
        have := C.eval a len cap X Y (X j) n 0 false W hmax (bounds_i64 (D.wf j hj).1) (N1.out n hn) D m
        rw [(eval_cases R (X j)).2.1, Bool.or_false, eval_point R hj] at this
        exact this : Calls Try.prog 15 #[.pointer (some ⟨n, 0, none⟩), .slice a len cap, .int .i64 (X j)] W fun e w' => e = .returned (.int .i64 (Y j)) ∧ FxW W.heap.size W n 0 false w'))
      have D0 := Lib.hid D
      clear C D R hr
      go_enter Try.func7, Try.ntmps7
      go_wp2_with fail
      refine (X1.out _ D0.out).mono ?_
      rintro e w1 ⟨rfl, h⟩
      have D1 := Lib.hid (D0.out.below h (Nat.le_refl _))
      have L1 := Lib.hid (L0.out.trans (h.mono L0.out.size))
      clear h D0 L0
      go_wp2
      refine wp_gen (S := fun W => Own w W w1.heap.size false ∧ Dots W a len cap X Y) ⟨Own.new L1.out _, D1.out.below ((Below.refl w1.heap.size w1).alloc (Nat.le_refl _) _) (Nat.le_refl _)⟩ (fun W1 hS => ?_)
      have hz : w.heap.size ≤ w1.heap.size := L1.out.size
      generalize w1.heap.size = n at *
      have T0 := Lib.hid hS.1
      have D2 := Lib.hid hS.2
      clear hS L1 D1 X1
      go_loopw [4] (fun i wr => ∃ j : Nat, j ≤ len ∧ i = .int .i64 j ∧ Own w wr n false ∧ Dots wr a len cap X Y) (fun i _ => len - (intOf i).toNat)
      case atStart => exact ⟨0, by omega, rfl, T0.out, D2.out⟩
      case round =>
        clear T0 D2
        obtain ⟨j, hj, rfl, hT, hD⟩ := hrel
        by_cases hlt : j < len
        · have T0 := Lib.hid hT.drew
          have D0 := Lib.hid (hD.below ((Below.refl _ _).drew) (Nat.le_refl _))
          clear hT hD
          have X2 := Lib.hid (XP.out j hlt n hz)
          have N2 := Lib.hid (N1.out n hz)
          clear XP
          obtain ⟨bs, off, rfl, hb, hcell⟩ := D0.out.at' (by omega)
          clear hb hcell
          go_wp2_with fail
          refine wp_region_held_drew (S := fun W => W.cell? ⟨bs, off + j * 2, none⟩ = some (.int .i64 (X j)) ∧ W.cell? ⟨bs, off + j * 2 + 1, none⟩ = some (.int .i64 (Y j))) (by kernel_rfl) (D0.out.at2 hlt) (fun hHeld => ?_)
          generalize wr.drew = W2 at *
          refine wpAnyH_takeD 0 22 (v := ?_) (by kernel_rfl) (by kernel_rfl) (by kernel_rfl) (by kernel_rfl) (by rfl) (fun _ _ _ h => h) ?_ hHeld ?_
          rotate_left 1
          (intro o ho W hSw; simp only [List.getElem?_toArray, List.getElem?_cons_succ, List.getElem?_cons_zero, Option.some.injEq] at ho; subst ho; (try dsimp only at hSw); go_simp; try with_reducible rfl)
          (try simp only [Act.put, List.setIfInBounds_toArray, List.set_cons_zero, List.set_cons_succ])
          refine wpAnyH_takeD 1 23 (v := ?_) (by kernel_rfl) (by kernel_rfl) (by kernel_rfl) (by kernel_rfl) (by rfl) (fun _ _ _ h => h) ?_ hHeld ?_
          rotate_left 1
          (intro o ho W hSw; simp only [List.getElem?_toArray, List.getElem?_cons_succ, List.getElem?_cons_zero, Option.some.injEq] at ho; subst ho; (try dsimp only at hSw); go_simp; try with_reducible rfl)
          (try simp only [Act.put, List.setIfInBounds_toArray, List.set_cons_zero, List.set_cons_succ])
          refine wpAnyH_takeD 2 24 (v := ?_) (by kernel_rfl) (by kernel_rfl) (by kernel_rfl) (by kernel_rfl) (by rfl) (fun _ _ _ h => h) ?_ hHeld ?_
          rotate_left 1
          (intro o ho W hSw; simp only [List.getElem?_toArray, List.getElem?_cons_succ, List.getElem?_cons_zero, Option.some.injEq] at ho; subst ho; (try dsimp only at hSw); go_simp; try with_reducible rfl)
          (try simp only [Act.put, List.setIfInBounds_toArray, List.set_cons_zero, List.set_cons_succ])
          refine wpAnyH_takeD 3 25 (v := ?_) (by kernel_rfl) (by kernel_rfl) (by kernel_rfl) (by kernel_rfl) (by rfl) (fun _ _ _ h => h) ?_ hHeld ?_
          rotate_left 1
          (intro o ho W hSw; simp only [List.getElem?_toArray, List.getElem?_cons_succ, List.getElem?_cons_zero, Option.some.injEq] at ho; subst ho; (try dsimp only at hSw); go_simp; try with_reducible rfl)
          (try simp only [Act.put, List.setIfInBounds_toArray, List.set_cons_zero, List.set_cons_succ])
          refine wpAnyH_takeD 4 26 (v := ?_) (by kernel_rfl) (by kernel_rfl) (by kernel_rfl) (by kernel_rfl) (by rfl) (fun _ _ _ h => h) ?_ hHeld ?_
          rotate_left 1
          (intro o ho W hSw; simp only [List.getElem?_toArray, List.getElem?_cons_succ, List.getElem?_cons_zero, Option.some.injEq] at ho; subst ho; (try dsimp only at hSw); go_simp; try with_reducible rfl)
          (try simp only [Act.put, List.setIfInBounds_toArray, List.set_cons_zero, List.set_cons_succ])
          refine wpAnyH_takeD 5 27 (v := ?_) (by kernel_rfl) (by kernel_rfl) (by kernel_rfl) (by kernel_rfl) (by rfl) (fun _ _ _ h => h) ?_ hHeld ?_
          rotate_left 1
          (intro o ho W hSw; simp only [List.getElem?_toArray, List.getElem?_cons_succ, List.getElem?_cons_zero, Option.some.injEq] at ho; subst ho; (try dsimp only at hSw); go_simp; try with_reducible rfl)
          (try simp only [Act.put, List.setIfInBounds_toArray, List.set_cons_zero, List.set_cons_succ])
          refine wpAnyH_takeD 6 28 (v := ?_) (by kernel_rfl) (by kernel_rfl) (by kernel_rfl) (by kernel_rfl) (by rfl) (fun _ _ _ h => h) ?_ hHeld ?_
          rotate_left 1
          (intro o ho W hSw; simp only [List.getElem?_toArray, List.getElem?_cons_succ, List.getElem?_cons_zero, Option.some.injEq] at ho; subst ho; (try dsimp only at hSw); go_simp; try with_reducible rfl)
          (try simp only [Act.put, List.setIfInBounds_toArray, List.set_cons_zero, List.set_cons_succ])
          refine wpAnyH_takeD 8 30 (v := ?_) (by kernel_rfl) (by kernel_rfl) (by kernel_rfl) (by kernel_rfl) (by rfl) (fun _ _ _ h => h) ?_ hHeld ?_
          rotate_left 1
          (intro o ho W hSw; simp only [List.getElem?_toArray, List.getElem?_cons_succ, List.getElem?_cons_zero, Option.some.injEq] at ho; subst ho; (try dsimp only at hSw); go_simp; try with_reducible rfl)
          (try simp only [Act.put, List.setIfInBounds_toArray, List.set_cons_zero, List.set_cons_succ])
          refine wpAnyH_takeD 9 31 (v := ?_) (by kernel_rfl) (by kernel_rfl) (by kernel_rfl) (by kernel_rfl) (by rfl) (fun _ _ _ h => h) ?_ hHeld ?_
          rotate_left 1
          (intro o ho W hSw; simp only [List.getElem?_toArray, List.getElem?_cons_succ, List.getElem?_cons_zero, Option.some.injEq] at ho; subst ho; (try dsimp only at hSw); go_simp; try with_reducible rfl)
          (try simp only [Act.put, List.setIfInBounds_toArray, List.set_cons_zero, List.set_cons_succ])
          refine wpAnyH_takeD 10 32 (v := ?_) (by kernel_rfl) (by kernel_rfl) (by kernel_rfl) (by kernel_rfl) (by rfl) (fun _ _ _ h => h) ?_ hHeld ?_
          rotate_left 1
          (intro o ho W hSw; simp only [List.getElem?_toArray, List.getElem?_cons_succ, List.getElem?_cons_zero, Option.some.injEq] at ho; subst ho; (try dsimp only at hSw); go_simp; try with_reducible rfl)
          (try simp only [Act.put, List.setIfInBounds_toArray, List.set_cons_zero, List.set_cons_succ])
          refine wpAnyH_takeD 11 33 (v := ?_) (by kernel_rfl) (by kernel_rfl) (by kernel_rfl) (by kernel_rfl) (by rfl) (fun _ _ _ h => h) ?_ hHeld ?_
          rotate_left 1
          (intro o ho W hSw; simp only [List.getElem?_toArray, List.getElem?_cons_succ, List.getElem?_cons_zero, Option.some.injEq] at ho; subst ho; (try dsimp only at hSw); go_simp; try with_reducible rfl)
          (try simp only [Act.put, List.setIfInBounds_toArray, List.set_cons_zero, List.set_cons_succ])
          refine wpAnyH_takeD 12 34 (v := ?_) (by kernel_rfl) (by kernel_rfl) (by kernel_rfl) (by kernel_rfl) (by rfl) (fun _ _ _ h => h) ?_ hHeld ?_
          rotate_left 1
          (intro o ho W hSw; simp only [List.getElem?_toArray, List.getElem?_cons_succ, List.getElem?_cons_zero, Option.some.injEq] at ho; subst ho; (try dsimp only at hSw); go_simp; try with_reducible rfl)
          (try simp only [Act.put, List.setIfInBounds_toArray, List.set_cons_zero, List.set_cons_succ])
          refine wpAnyH_onlyD 7 (by kernel_rfl) (fun o ho K hK => ?_) (by kernel_rfl)
          simp only [List.getElem?_toArray, List.getElem?_cons_succ, List.getElem?_cons_zero, Option.some.injEq] at ho
          subst ho
          go_simp
          refine (X2.out _ D0.out T0.out.a).mono ?_
          rintro e w1 ⟨rfl, h⟩
          have T1 := Lib.hid (T0.out.fst h)
          have D1 := Lib.hid (D0.out.fx h N2.out)
          go_wp2_with fail
          refine hK.out _ _ (D1.out.at2 hlt) ?_
          clear hK K hHeld
          intro hHeld
          clear h T0 D0
          refine wpAnyH_takeD 13 35 (v := ?_) (by kernel_rfl) (by kernel_rfl) (by kernel_rfl) (by kernel_rfl) (by rfl) (fun _ _ _ h => h) ?_ hHeld ?_
          rotate_left 1
          (intro o ho W hSw; simp only [List.getElem?_toArray, List.getElem?_cons_succ, List.getElem?_cons_zero, Option.some.injEq] at ho; subst ho; (try dsimp only at hSw); go_simp; try with_reducible rfl)
          (try simp only [Act.put, List.setIfInBounds_toArray, List.set_cons_zero, List.set_cons_succ])
          refine wpAnyH_done (by kernel_rfl) ?_ _
          clear hHeld
          go_wp2
          go_roundw
          case rel => exact ⟨j + 1, by omega, by go_num, T1.out, D1.out⟩
          case measure => simp [intOf]; omega
        · have L1 := Lib.hid hT.bl
          clear hT hD XP
          go_wp2_with fail
          refine (tableAwake_any HC.out _).mono ?_
          rintro e w9 ⟨rfl, h⟩
          have L9 := Lib.hid (L1.out.trans (h.mono L1.out.size))
          go_wp2
          go_ret
          exact ⟨rfl, L9.out⟩
    · clear C
      have D0 := Lib.hid D
      generalize rightN len X Y = r at *
      clear D
      go_enter Try.func7, Try.ntmps7
      go_wp2_with fail
      refine (X1.out _ D0.out).mono ?_
      rintro e w1 ⟨rfl, h⟩
      have D1 := Lib.hid (D0.out.below h (Nat.le_refl _))
      have L1 := Lib.hid (L0.out.trans (h.mono L0.out.size))
      clear h D0 L0
      go_wp2_with fail
      refine (tableAwake_any HC.out _).mono ?_
      rintro e w9 ⟨rfl, h⟩
      have L9 := Lib.hid (L1.out.trans (h.mono L1.out.size))
      go_wp2
      go_ret
      exact ⟨rfl, L9.out⟩
end Go.Proofs.Ytnedecpciioghaa
