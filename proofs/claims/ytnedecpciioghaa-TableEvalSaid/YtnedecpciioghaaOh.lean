/- The walks of TableRises and TablePoints. -/
import Derived.Test.YtnedecpciioghaaOg
namespace Go.Proofs.Ytnedecpciioghaa
open Go.RowKit
set_option linter.unusedVariables false
set_option linter.unusedSimpArgs false

theorem wrap_prev {i j : Nat} (hj : i + 1 = j) (h : j ≤ 100) : IntKind.i64.wrap ((j : Int) - 1) = (i : Int) ∧ wrap64 ((j : Int) - 1) = (i : Int) ∧ IntKind.i64.wrap (i : Int) = (i : Int) := by
  have e : (j : Int) - 1 = (i : Int) := by omega
  rw [e]
  exact ⟨IntWalk.i64_in _ (by omega), by unfold wrap64; omega, IntWalk.i64_in _ (by omega)⟩
set_option maxRecDepth 100000 in
set_option maxHeartbeats 8000000 in
theorem tpoints_walk (C : TableC) (a : Option Addr) (len cap : Nat) (X Y : Nat → Int) (w : World) (D : Dots w a len cap X Y) :
    Calls Try.prog 7 #[.slice a len cap] w fun e w' => e = .returned (.bool true) ∧ Below w.heap.size w w' := by
  have HC := Lib.hid C
  have L0 := Lib.hid (Below.refl w.heap.size w)
  by_cases hm : 100 < len
  · have hm2 : (100 : Int) < len := by omega
    clear C D
    go_enter Try.func7, Try.ntmps7
    go_wp2_with fail
    refine (tableAwake_any HC.out _).mono ?_
    rintro e w9 ⟨rfl, h⟩
    have L9 := Lib.hid (L0.out.trans (h.mono L0.out.size))
    go_wp2
    go_ret
    exact ⟨rfl, L9.out⟩
  · have hm2 : ¬ (100 : Int) < len := by omega
    have hmax : len ≤ 100 := by omega
    have X1 := Lib.hid (fun (W : World) (D : Dots W a len cap X Y) => C.right a len cap X Y W hmax D)
    by_cases hr : rightN len X Y = 0
    · have R := right_of hr
      rw [hr] at X1
      have N1 := Lib.hid (fun (n : Nat) (hn : w.heap.size ≤ n) (h : 0 < len) => D.off h hn)
      have XP := Lib.hid (fun (j : Nat) (hj : j < len) (n : Nat) (hn : w.heap.size ≤ n) (W : World) (D : Dots W a len cap X Y) (m : MAt W n 0 false) => (by
        have := C.eval a len cap X Y (X j) n 0 false W hmax (bounds_i64 (D.wf j hj).1) (N1.out n hn) D m
        rw [(eval_cases R (X j)).2.1, Bool.or_false, eval_point R hj] at this
        exact this : Calls Try.prog 15 #[.pointer (some ⟨n, 0, none⟩), .slice a len cap, .int .i64 (X j)] W fun e w' => e = .returned (.int .i64 (Y j)) ∧ FxW W.heap.size W n 0 false w'))
      have D0 := Lib.hid D
      clear C D R hr
      go_enter Try.func7, Try.ntmps7
      go_wp2_with fail
      refine (X1.out _ D0.out).mono ?_
      rintro e w1 ⟨rfl, h⟩
      have D1 := Lib.hid (D0.out.below h (Nat.le_refl _))
      have L1 := Lib.hid (L0.out.trans (h.mono L0.out.size))
      clear h D0 L0
      go_wp2
      refine wp_gen (S := fun W => Own w W w1.heap.size false ∧ Dots W a len cap X Y) ⟨Own.new L1.out _, D1.out.below ((Below.refl w1.heap.size w1).alloc (Nat.le_refl _) _) (Nat.le_refl _)⟩ (fun W1 hS => ?_)
      have hz : w.heap.size ≤ w1.heap.size := L1.out.size
      generalize w1.heap.size = n at *
      have T0 := Lib.hid hS.1
      have D2 := Lib.hid hS.2
      clear hS L1 D1 X1
      go_loopw [4] (fun i wr => ∃ j : Nat, j ≤ len ∧ i = .int .i64 j ∧ Own w wr n false ∧ Dots wr a len cap X Y) (fun i _ => len - (intOf i).toNat)
      case atStart => exact ⟨0, by omega, rfl, T0.out, D2.out⟩
      case round =>
        clear T0 D2
        obtain ⟨j, hj, rfl, hT, hD⟩ := hrel
        by_cases hlt : j < len
        · have T0 := Lib.hid hT.drew
          have D0 := Lib.hid (hD.below ((Below.refl _ _).drew) (Nat.le_refl _))
          clear hT hD
          have X2 := Lib.hid (XP.out j hlt n hz)
          have N2 := Lib.hid (N1.out n hz)
          clear XP
          obtain ⟨bs, off, rfl, hb, hcell⟩ := D0.out.at' (by omega)
          clear hb hcell
          go_wp2_with fail
          refine wp_region_held_drew (S := fun W => W.cell? ⟨bs, off + j * 2, none⟩ = some (.int .i64 (X j)) ∧ W.cell? ⟨bs, off + j * 2 + 1, none⟩ = some (.int .i64 (Y j))) (by kernel_rfl) (D0.out.at2 hlt) (fun hHeld => ?_)
          generalize wr.drew = W2 at *
          refine wpAnyH_takeD 0 22 (v := ?_) (by kernel_rfl) (by kernel_rfl) (by kernel_rfl) (by kernel_rfl) (by rfl) (fun _ _ _ h => h) ?_ hHeld ?_
          rotate_left 1
          (intro o ho W hSw; simp only [List.getElem?_toArray, List.getElem?_cons_succ, List.getElem?_cons_zero, Option.some.injEq] at ho; subst ho; (try dsimp only at hSw); go_simp; try with_reducible rfl)
          (try simp only [Act.put, List.setIfInBounds_toArray, List.set_cons_zero, List.set_cons_succ])
          refine wpAnyH_takeD 1 23 (v := ?_) (by kernel_rfl) (by kernel_rfl) (by kernel_rfl) (by kernel_rfl) (by rfl) (fun _ _ _ h => h) ?_ hHeld ?_
          rotate_left 1
          (intro o ho W hSw; simp only [List.getElem?_toArray, List.getElem?_cons_succ, List.getElem?_cons_zero, Option.some.injEq] at ho; subst ho; (try dsimp only at hSw); go_simp; try with_reducible rfl)
          (try simp only [Act.put, List.setIfInBounds_toArray, List.set_cons_zero, List.set_cons_succ])
          refine wpAnyH_takeD 2 24 (v := ?_) (by kernel_rfl) (by kernel_rfl) (by kernel_rfl) (by kernel_rfl) (by rfl) (fun _ _ _ h => h) ?_ hHeld ?_
          rotate_left 1
          (intro o ho W hSw; simp only [List.getElem?_toArray, List.getElem?_cons_succ, List.getElem?_cons_zero, Option.some.injEq] at ho; subst ho; (try dsimp only at hSw); go_simp; try with_reducible rfl)
          (try simp only [Act.put, List.setIfInBounds_toArray, List.set_cons_zero, List.set_cons_succ])
          refine wpAnyH_takeD 3 25 (v := ?_) (by kernel_rfl) (by kernel_rfl) (by kernel_rfl) (by kernel_rfl) (by rfl) (fun _ _ _ h => h) ?_ hHeld ?_
          rotate_left 1
          (intro o ho W hSw; simp only [List.getElem?_toArray, List.getElem?_cons_succ, List.getElem?_cons_zero, Option.some.injEq] at ho; subst ho; (try dsimp only at hSw); go_simp; try with_reducible rfl)
          (try simp only [Act.put, List.setIfInBounds_toArray, List.set_cons_zero, List.set_cons_succ])
          refine wpAnyH_takeD 4 26 (v := ?_) (by kernel_rfl) (by kernel_rfl) (by kernel_rfl) (by kernel_rfl) (by rfl) (fun _ _ _ h => h) ?_ hHeld ?_
          rotate_left 1
          (intro o ho W hSw; simp only [List.getElem?_toArray, List.getElem?_cons_succ, List.getElem?_cons_zero, Option.some.injEq] at ho; subst ho; (try dsimp only at hSw); go_simp; try with_reducible rfl)
          (try simp only [Act.put, List.setIfInBounds_toArray, List.set_cons_zero, List.set_cons_succ])
          refine wpAnyH_takeD 5 27 (v := ?_) (by kernel_rfl) (by kernel_rfl) (by kernel_rfl) (by kernel_rfl) (by rfl) (fun _ _ _ h => h) ?_ hHeld ?_
          rotate_left 1
          (intro o ho W hSw; simp only [List.getElem?_toArray, List.getElem?_cons_succ, List.getElem?_cons_zero, Option.some.injEq] at ho; subst ho; (try dsimp only at hSw); go_simp; try with_reducible rfl)
          (try simp only [Act.put, List.setIfInBounds_toArray, List.set_cons_zero, List.set_cons_succ])
          refine wpAnyH_takeD 6 28 (v := ?_) (by kernel_rfl) (by kernel_rfl) (by kernel_rfl) (by kernel_rfl) (by rfl) (fun _ _ _ h => h) ?_ hHeld ?_
          rotate_left 1
          (intro o ho W hSw; simp only [List.getElem?_toArray, List.getElem?_cons_succ, List.getElem?_cons_zero, Option.some.injEq] at ho; subst ho; (try dsimp only at hSw); go_simp; try with_reducible rfl)
          (try simp only [Act.put, List.setIfInBounds_toArray, List.set_cons_zero, List.set_cons_succ])
          refine wpAnyH_takeD 8 30 (v := ?_) (by kernel_rfl) (by kernel_rfl) (by kernel_rfl) (by kernel_rfl) (by rfl) (fun _ _ _ h => h) ?_ hHeld ?_
          rotate_left 1
          (intro o ho W hSw; simp only [List.getElem?_toArray, List.getElem?_cons_succ, List.getElem?_cons_zero, Option.some.injEq] at ho; subst ho; (try dsimp only at hSw); go_simp; try with_reducible rfl)
          (try simp only [Act.put, List.setIfInBounds_toArray, List.set_cons_zero, List.set_cons_succ])
          refine wpAnyH_takeD 9 31 (v := ?_) (by kernel_rfl) (by kernel_rfl) (by kernel_rfl) (by kernel_rfl) (by rfl) (fun _ _ _ h => h) ?_ hHeld ?_
          rotate_left 1
          (intro o ho W hSw; simp only [List.getElem?_toArray, List.getElem?_cons_succ, List.getElem?_cons_zero, Option.some.injEq] at ho; subst ho; (try dsimp only at hSw); go_simp; try with_reducible rfl)
          (try simp only [Act.put, List.setIfInBounds_toArray, List.set_cons_zero, List.set_cons_succ])
          refine wpAnyH_takeD 10 32 (v := ?_) (by kernel_rfl) (by kernel_rfl) (by kernel_rfl) (by kernel_rfl) (by rfl) (fun _ _ _ h => h) ?_ hHeld ?_
          rotate_left 1
          (intro o ho W hSw; simp only [List.getElem?_toArray, List.getElem?_cons_succ, List.getElem?_cons_zero, Option.some.injEq] at ho; subst ho; (try dsimp only at hSw); go_simp; try with_reducible rfl)
          (try simp only [Act.put, List.setIfInBounds_toArray, List.set_cons_zero, List.set_cons_succ])
          refine wpAnyH_takeD 11 33 (v := ?_) (by kernel_rfl) (by kernel_rfl) (by kernel_rfl) (by kernel_rfl) (by rfl) (fun _ _ _ h => h) ?_ hHeld ?_
          rotate_left 1
          (intro o ho W hSw; simp only [List.getElem?_toArray, List.getElem?_cons_succ, List.getElem?_cons_zero, Option.some.injEq] at ho; subst ho; (try dsimp only at hSw); go_simp; try with_reducible rfl)
          (try simp only [Act.put, List.setIfInBounds_toArray, List.set_cons_zero, List.set_cons_succ])
          refine wpAnyH_takeD 12 34 (v := ?_) (by kernel_rfl) (by kernel_rfl) (by kernel_rfl) (by kernel_rfl) (by rfl) (fun _ _ _ h => h) ?_ hHeld ?_
          rotate_left 1
          (intro o ho W hSw; simp only [List.getElem?_toArray, List.getElem?_cons_succ, List.getElem?_cons_zero, Option.some.injEq] at ho; subst ho; (try dsimp only at hSw); go_simp; try with_reducible rfl)
          (try simp only [Act.put, List.setIfInBounds_toArray, List.set_cons_zero, List.set_cons_succ])
          refine wpAnyH_onlyD 7 (by kernel_rfl) (fun o ho K hK => ?_) (by kernel_rfl)
          simp only [List.getElem?_toArray, List.getElem?_cons_succ, List.getElem?_cons_zero, Option.some.injEq] at ho
          subst ho
          go_simp
          refine (X2.out _ D0.out T0.out.a).mono ?_
          rintro e w1 ⟨rfl, h⟩
          have T1 := Lib.hid (T0.out.fst h)
          have D1 := Lib.hid (D0.out.fx h N2.out)
          go_wp2_with fail
          refine hK.out _ _ (D1.out.at2 hlt) ?_
          clear hK K hHeld
          intro hHeld
          clear h T0 D0
          refine wpAnyH_takeD 13 35 (v := ?_) (by kernel_rfl) (by kernel_rfl) (by kernel_rfl) (by kernel_rfl) (by rfl) (fun _ _ _ h => h) ?_ hHeld ?_
          rotate_left 1
          (intro o ho W hSw; simp only [List.getElem?_toArray, List.getElem?_cons_succ, List.getElem?_cons_zero, Option.some.injEq] at ho; subst ho; (try dsimp only at hSw); go_simp; try with_reducible rfl)
          (try simp only [Act.put, List.setIfInBounds_toArray, List.set_cons_zero, List.set_cons_succ])
          refine wpAnyH_done (by kernel_rfl) ?_ _
          clear hHeld
          go_wp2
          go_roundw
          case rel => exact ⟨j + 1, by omega, by go_num, T1.out, D1.out⟩
          case measure => simp [intOf]; omega
        · have L1 := Lib.hid hT.bl
          clear hT hD XP
          go_wp2_with fail
          refine (tableAwake_any HC.out _).mono ?_
          rintro e w9 ⟨rfl, h⟩
          have L9 := Lib.hid (L1.out.trans (h.mono L1.out.size))
          go_wp2
          go_ret
          exact ⟨rfl, L9.out⟩
    · clear C
      have D0 := Lib.hid D
      generalize rightN len X Y = r at *
      clear D
      go_enter Try.func7, Try.ntmps7
      go_wp2_with fail
      refine (X1.out _ D0.out).mono ?_
      rintro e w1 ⟨rfl, h⟩
      have D1 := Lib.hid (D0.out.below h (Nat.le_refl _))
      have L1 := Lib.hid (L0.out.trans (h.mono L0.out.size))
      clear h D0 L0
      go_wp2_with fail
      refine (tableAwake_any HC.out _).mono ?_
      rintro e w9 ⟨rfl, h⟩
      have L9 := Lib.hid (L1.out.trans (h.mono L1.out.size))
      go_wp2
      go_ret
      exact ⟨rfl, L9.out⟩
end Go.Proofs.Ytnedecpciioghaa
