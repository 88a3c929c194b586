/- The walk of SplineClose. -/
import Derived.Test.YtjdhjabbojceeaaSi
import Derived.Test.YtjdhjabbojceeaaBv
namespace Go.Proofs.Ytjdhjabbojceeaa
open Go.RowKit
set_option linter.unusedVariables false
set_option linter.unusedSimpArgs false

theorem near_cases (n : Nat) (X Y : Nat → Int) (px py : Int) : nearestI n X Y px py = -1 ∨ ∃ k : Nat, k < n ∧ nearestI n X Y px py = (k : Int) ∧ nearN n X Y ∧ Rg px ∧ Rg py ∧ (∀ i, i < n → dSq X Y px py k ≤ dSq X Y px py i) ∧ ∀ i, i < k → dSq X Y px py k < dSq X Y px py i := by
  unfold nearestI
  by_cases h : nearN n X Y ∧ Rg px ∧ Rg py
  · rw [if_pos h]
    by_cases h0 : n = 0
    · subst h0; exact Or.inl rfl
    · obtain ⟨a, b, c, d⟩ := nrU_is X Y px py n (by omega)
      exact Or.inr ⟨(nrU X Y px py n).toNat, by omega, by omega, h.1, h.2.1, h.2.2, c, d⟩
  · rw [if_neg h]; exact Or.inl rfl
theorem below_two {w W : World} (k : Below w.heap.size w W) {r : Nat} (h : w.heap.size ≤ r) (u0 u1 : Value) : Below w.heap.size w ((W.setCell ⟨r, 0, none⟩ u0).setCell ⟨r, 1, none⟩ u1) :=
  (k.setCell (p := ⟨r, 0, none⟩) h u0).setCell (p := ⟨r, 1, none⟩) h u1
theorem bw_two {W : World} {n : Nat} {a b : Value} (k : BW W n [a, b]) (u0 u1 : Value) : BW ((W.setCell ⟨n, 0, none⟩ u0).setCell ⟨n, 1, none⟩ u1) n [u0, u1] := (k.put (i := 0) u0 _ rfl).put (i := 1) u1 _ rfl
theorem lsquare_any (x y px py d : Int) (w : World) (hx : Rg x) (hy : Rg y) (hpx : Rg px) (hpy : Rg py) (hd : (x - px) * (x - px) + (y - py) * (y - py) = d) :
    Calls Try.prog 24 #[.agg #[.int .i64 x, .int .i64 y], .agg #[.int .i64 px, .int .i64 py]] w fun e w' => e = .returned (.agg #[.int .i64 (hiW d), .int .u64 (loW d)]) ∧ Below w.heap.size w w' := by
  unfold Rg at hx hy hpx hpy
  obtain ⟨i1, i2, -, i4⟩ := sq_fit (x := x - px) (y := y - py) (by omega) (by omega)
  rw [hd] at i4
  have M1 := Lib.hid (fun (W : World) => Mul_n (x - px) (x - px) _ W rfl (by omega) (by omega) (by omega) (by omega))
  have M2 := Lib.hid (fun (W : World) => Mul_n (y - py) (y - py) _ W rfl (by omega) (by omega) (by omega) (by omega))
  have M3 := Lib.hid (fun (W : World) => Add_yes ((x - px) * (x - px)) ((y - py) * (y - py)) d W i1 i2 hd i4)
  clear i1 i2 i4 hd
  obtain ⟨x0, x1⟩ := hx
  obtain ⟨y0, y1⟩ := hy
  obtain ⟨x2, x3⟩ := hpx
  obtain ⟨y2, y3⟩ := hpy
  go_enter Try.func24, Try.ntmps24
  go_wp2_with fail
  refine calls_gen (S := fun W => St w W [(w.heap.size + 1 + 1, [.int .i64 0, .int .u64 0])]) (St.cons (BW.new _ _ [_, _] _ (by simp)) (St.nil (by repeat (first | exact Below.refl _ _ | assumption | refine Below.setCell ?_ (by first | omega | (simp; done) | (simp; omega)) _ | refine Below.alloc ?_ (by first | omega | (simp; done) | (simp; omega)) _ | refine below_drewN ?_ _ | refine Below.drew ?_ | refine Below.trans ?_ (Below.mono (by assumption) (by first | omega | (simp; done) | (simp; omega))))))) (fun W0 hS => ?_)
  have K0 := Lib.hid hS
  clear hS
  refine (M1.out _).mono ?_
  rintro e w1 ⟨rfl, h⟩
  have K1 := Lib.hid (K0.out.step h)
  clear h K0
  go_wp2_with fail
  refine (M2.out _).mono ?_
  rintro e w2 ⟨rfl, h⟩
  have K2 := Lib.hid (K1.out.step h)
  clear h K1
  go_wp2_with fail
  refine (M3.out _).mono ?_
  rintro e w3 ⟨rfl, h⟩
  have K3 := Lib.hid (K2.out.step h)
  clear h K2 M1 M2 M3 x0 x1 y0 y1 x2 x3 y2 y3
  have B := (K3.out.b (w.heap.size + 1 + 1) [.int .i64 0, .int .u64 0] (by simp))
  have r0 := B.c 0 _ rfl
  have r1 := B.c 1 _ rfl
  have rf := B.f
  have hl := B.lt
  have Z := (bw_two B (.int .i64 (hiW d)) (.int .u64 (loW d))).alloc (.cells #[.int .i64 (hiW d), .int .u64 (loW d)] 52)
  have z0 := Z.c 0 _ rfl
  have z1 := Z.c 1 _ rfl
  clear B Z
  go_wp2
  exact bodyPost_ret (v := .agg #[.int .i64 (hiW d), .int .u64 (loW d)]) (by simp [results, Try.results24, go_sem, z0, z1]) rfl ⟨rfl, (below_two K3.out.l (by omega) _ _).alloc (by simp only [set_size]; omega) _⟩
/-- while samples are held against the nearest one -/
structure ClW (w W : World) (a : Option Addr) (n c : Nat) (X Y : Nat → Int) (px py : Int) : Prop where
  d : Dots W a n c X Y
  P : BW W w.heap.size [.int .i64 px, .int .i64 py]
  l : Below w.heap.size w W
theorem ClW.step {w W W' : World} {a : Option Addr} {n c : Nat} {X Y : Nat → Int} {px py : Int} (Q : ClW w W a n c X Y px py) (h : Below W.heap.size W W') : ClW w W' a n c X Y px py :=
  ⟨Q.d.below h (Nat.le_refl _), Q.P.below h Q.P.lt, Q.l.trans (h.mono Q.l.size)⟩
def ClS (m p off i k : Nat) (px py xi yi xk yk : Int) (W : World) : Prop :=
  (W.cell? ⟨m, 0, none⟩ = some (.int .i64 px) ∧ W.cell? ⟨m, 1, none⟩ = some (.int .i64 py)) ∧ (W.cell? ⟨p, off + i * 2, none⟩ = some (.int .i64 xi) ∧ W.cell? ⟨p, off + i * 2 + 1, none⟩ = some (.int .i64 yi)) ∧ (W.cell? ⟨p, off + k * 2, none⟩ = some (.int .i64 xk) ∧ W.cell? ⟨p, off + k * 2 + 1, none⟩ = some (.int .i64 yk))
theorem ClW.s {w W : World} {n c p off : Nat} {X Y : Nat → Int} {px py : Int} (Q : ClW w W (some ⟨p, off, none⟩) n c X Y px py) {i k : Nat} (hi : i < n) (hk : k < n) : ClS w.heap.size p off i k px py (X i) (Y i) (X k) (Y k) W := by
  obtain ⟨p', off', e, -, hc⟩ := Q.d.at' (by omega)
  cases e
  exact ⟨Q.P.h2'', hc i hi, hc k hk⟩
set_option maxRecDepth 100000 in
set_option maxHeartbeats 8000000 in
theorem sclose_walk (C : SplineC) (a : Option Addr) (n c : Nat) (X Y : Nat → Int) (px py : Int) (w : World) (hx : In64 px) (hy : In64 py) (D : Dots w a n c X Y) :
    Calls Try.prog 8 #[.slice a n c, .agg #[.int .i64 px, .int .i64 py]] w fun e w' => e = .returned (.bool true) ∧ Below w.heap.size w w' := by
  have HC := Lib.hid C
  have HD := Lib.hid D
  clear C D
  by_cases hn : n ≤ 100
  rotate_left
  · have g : (100 : Int) < n := by omega
    go_enter Try.func8, Try.ntmps8
    go_wp2
    go_ret
    exact ⟨rfl, by repeat (first | exact Below.refl _ _ | assumption | refine Below.setCell ?_ (by first | omega | (simp; done) | (simp; omega)) _ | refine Below.alloc ?_ (by first | omega | (simp; done) | (simp; omega)) _ | refine below_drewN ?_ _ | refine Below.drew ?_ | refine Below.trans ?_ (Below.mono (by assumption) (by first | omega | (simp; done) | (simp; omega))))⟩
  have g : ¬ (100 : Int) < n := by omega
  have X3 := Lib.hid (fun (W : World) (D : Dots W a n c X Y) => HC.out.nearest a n c X Y px py W hn D hx hy)
  have NC := near_cases n X Y px py
  generalize nearestI n X Y px py = r at *
  have Q0 := Lib.hid (show ClW w (w.alloc (.cells #[.int .i64 px, .int .i64 py] 32)) a n c X Y px py from ⟨HD.out.below ((Below.refl _ _).alloc (Nat.le_refl _) _) (Nat.le_refl _), BW.new w _ [_, _] _ rfl, (Below.refl _ _).alloc (Nat.le_refl _) _⟩)
  clear HD hx hy
  rcases NC with rfl | ⟨k, hkn, rfl, nl, np, nq, mn, fs⟩
  · go_enter Try.func8, Try.ntmps8
    go_wp2_with fail
    refine (X3.out _ Q0.out.d).mono ?_
    rintro e w1 ⟨rfl, h⟩
    have Q1 := Lib.hid (Q0.out.step h)
    clear h Q0
    go_wp2_with fail
    refine (splineAwake_any HC.out _).mono ?_
    rintro e w9 ⟨rfl, h⟩
    have Q9 := Lib.hid (Q1.out.step h)
    clear h
    go_wp2
    go_ret
    exact ⟨rfl, Q9.out.l⟩
  obtain ⟨p, off, ha, -, -⟩ := Q0.out.d.at' (by omega)
  subst ha
  have SQ := Lib.hid (fun (i : Nat) (hi : i < n) (W : World) => lsquare_any (X i) (Y i) px py _ W (nl i hi).1 (nl i hi).2 np nq rfl)
  have IN := Lib.hid (fun (i : Nat) (hi : i < n) => show In128 (dSq X Y px py i) from by
    have := nl i hi
    unfold Rg at this np nq
    exact (sq_fit (x := X i - px) (y := Y i - py) (by omega) (by omega)).2.2.2)
  have MN := Lib.hid mn
  have FS := Lib.hid fs
  clear mn fs nl np nq
  go_enter Try.func8, Try.ntmps8
  go_wp2_with fail
  refine (X3.out _ Q0.out.d).mono ?_
  rintro e w1 ⟨rfl, h⟩
  have Q1 := Lib.hid (Q0.out.step h)
  clear h Q0 X3
  have z0 : (0 : Int) ≤ (k : Int) := by omega
  have z1 : (k : Int) < (n : Int) := by omega
  have z2 : ¬ (k : Int) < 0 := by omega
  have z3 : ¬ (n : Int) ≤ (k : Int) := by omega
  have z6 : decide (n ≤ k) = false := decide_eq_false (by omega)
  go_wp2
  go_loopw [6, 7] (fun i u wr => ∃ j : Nat, j ≤ n ∧ i = .int .i64 j ∧ ClW w wr (some ⟨p, off, none⟩) n c X Y px py) (fun i _ _ => n - (intOf i).toNat)
  case atStart => exact ⟨0, by omega, rfl, Q1.out⟩
  case round =>
    obtain ⟨j, hj, rfl, hQ⟩ := hrel
    have Q2 := Lib.hid hQ
    clear hQ Q1
    by_cases hlj : j < n
    · have z4 : (0 : Int) ≤ (j : Int) := by omega
      have z5 : (j : Int) < (n : Int) := by omega
      have QD := Lib.hid (Q2.out.step (Below.refl _ _).drew)
      have m1 := MN.out j hlj
      have m2 := FS.out j
      have CM := Lib.hid (fun (W : World) => Cmp_n (dSq X Y px py j) (dSq X Y px py k) W (IN.out j hlj) (IN.out k hkn))
      have g1 : ¬ cmpI (dSq X Y px py j) (dSq X Y px py k) < 0 := by have := cmpI_ge m1; omega
      have g2 : cmpI (dSq X Y px py j) (dSq X Y px py k) = 0 → ¬ (j : Int) < (k : Int) := fun e h => by
        have h2 := m2 (by omega)
        unfold cmpI at e
        rw [if_neg (by omega), if_neg (by omega)] at e
        omega
      have S1 := Lib.hid (SQ.out j hlj)
      have S2 := Lib.hid (SQ.out k hkn)
      rw [show (X j - px) * (X j - px) + (Y j - py) * (Y j - py) = dSq X Y px py j from rfl] at S1
      rw [show (X k - px) * (X k - px) + (Y k - py) * (Y k - py) = dSq X Y px py k from rfl] at S2
      generalize cmpI (dSq X Y px py j) (dSq X Y px py k) = cv at *
      generalize dSq X Y px py j = dj at *
      clear m1 m2
      go_wp2_with fail
      refine wp_region_held_drew (S := ClS w.heap.size p off j k px py (X j) (Y j) (X k) (Y k)) (by kernel_rfl) (QD.out.s hlj hkn) (fun hHeld => ?_)
      clear Q2
      generalize wr.drew = w0 at *
      unfold ClS at hHeld ⊢
      have Q0 := QD
      clear QD
      refine wpAnyH_takeD 0 33 (v := ?_) (by kernel_rfl) (by kernel_rfl) (by kernel_rfl) (by kernel_rfl) (by rfl) (fun _ _ _ h => h) ?_ hHeld ?_
      rotate_left 1
      (intro o ho W hSw; simp only [List.getElem?_toArray, List.getElem?_cons_succ, List.getElem?_cons_zero, Option.some.injEq] at ho; subst ho; (try dsimp only at hSw); go_simp; try with_reducible rfl)
      (try simp only [Act.put, List.setIfInBounds_toArray, List.set_cons_zero, List.set_cons_succ])
      refine wpAnyH_takeD 1 34 (v := ?_) (by kernel_rfl) (by kernel_rfl) (by kernel_rfl) (by kernel_rfl) (by rfl) (fun _ _ _ h => h) ?_ hHeld ?_
      rotate_left 1
      (intro o ho W hSw; simp only [List.getElem?_toArray, List.getElem?_cons_succ, List.getElem?_cons_zero, Option.some.injEq] at ho; subst ho; (try dsimp only at hSw); go_simp; try with_reducible rfl)
      (try simp only [Act.put, List.setIfInBounds_toArray, List.set_cons_zero, List.set_cons_succ])
      refine wpAnyH_takeD 2 35 (v := ?_) (by kernel_rfl) (by kernel_rfl) (by kernel_rfl) (by kernel_rfl) (by rfl) (fun _ _ _ h => h) ?_ hHeld ?_
      rotate_left 1
      (intro o ho W hSw; simp only [List.getElem?_toArray, List.getElem?_cons_succ, List.getElem?_cons_zero, Option.some.injEq] at ho; subst ho; (try dsimp only at hSw); go_simp; try with_reducible rfl)
      (try simp only [Act.put, List.setIfInBounds_toArray, List.set_cons_zero, List.set_cons_succ])
      refine wpAnyH_takeD 3 36 (v := ?_) (by kernel_rfl) (by kernel_rfl) (by kernel_rfl) (by kernel_rfl) (by rfl) (fun _ _ _ h => h) ?_ hHeld ?_
      rotate_left 1
      (intro o ho W hSw; simp only [List.getElem?_toArray, List.getElem?_cons_succ, List.getElem?_cons_zero, Option.some.injEq] at ho; subst ho; (try dsimp only at hSw); go_simp; try with_reducible rfl)
      (try simp only [Act.put, List.setIfInBounds_toArray, List.set_cons_zero, List.set_cons_succ])
      refine wpAnyH_takeD 4 37 (v := ?_) (by kernel_rfl) (by kernel_rfl) (by kernel_rfl) (by kernel_rfl) (by rfl) (fun _ _ _ h => h) ?_ hHeld ?_
      rotate_left 1
      (intro o ho W hSw; simp only [List.getElem?_toArray, List.getElem?_cons_succ, List.getElem?_cons_zero, Option.some.injEq] at ho; subst ho; (try dsimp only at hSw); go_simp; try with_reducible rfl)
      (try simp only [Act.put, List.setIfInBounds_toArray, List.set_cons_zero, List.set_cons_succ])
      refine wpAnyH_takeD 6 39 (v := ?_) (by kernel_rfl) (by kernel_rfl) (by kernel_rfl) (by kernel_rfl) (by rfl) (fun _ _ _ h => h) ?_ hHeld ?_
      rotate_left 1
      (intro o ho W hSw; simp only [List.getElem?_toArray, List.getElem?_cons_succ, List.getElem?_cons_zero, Option.some.injEq] at ho; subst ho; (try dsimp only at hSw); go_simp; try with_reducible rfl)
      (try simp only [Act.put, List.setIfInBounds_toArray, List.set_cons_zero, List.set_cons_succ])
      refine wpAnyH_takeD 7 40 (v := ?_) (by kernel_rfl) (by kernel_rfl) (by kernel_rfl) (by kernel_rfl) (by rfl) (fun _ _ _ h => h) ?_ hHeld ?_
      rotate_left 1
      (intro o ho W hSw; simp only [List.getElem?_toArray, List.getElem?_cons_succ, List.getElem?_cons_zero, Option.some.injEq] at ho; subst ho; (try dsimp only at hSw); go_simp; try with_reducible rfl)
      (try simp only [Act.put, List.setIfInBounds_toArray, List.set_cons_zero, List.set_cons_succ])
      refine wpAnyH_takeD 8 41 (v := ?_) (by kernel_rfl) (by kernel_rfl) (by kernel_rfl) (by kernel_rfl) (by rfl) (fun _ _ _ h => h) ?_ hHeld ?_
      rotate_left 1
      (intro o ho W hSw; simp only [List.getElem?_toArray, List.getElem?_cons_succ, List.getElem?_cons_zero, Option.some.injEq] at ho; subst ho; (try dsimp only at hSw); go_simp; try with_reducible rfl)
      (try simp only [Act.put, List.setIfInBounds_toArray, List.set_cons_zero, List.set_cons_succ])
      refine wpAnyH_takeD 9 42 (v := ?_) (by kernel_rfl) (by kernel_rfl) (by kernel_rfl) (by kernel_rfl) (by rfl) (fun _ _ _ h => h) ?_ hHeld ?_
      rotate_left 1
      (intro o ho W hSw; simp only [List.getElem?_toArray, List.getElem?_cons_succ, List.getElem?_cons_zero, Option.some.injEq] at ho; subst ho; (try dsimp only at hSw); go_simp; try with_reducible rfl)
      (try simp only [Act.put, List.setIfInBounds_toArray, List.set_cons_zero, List.set_cons_succ])
      refine wpAnyH_takeD 10 43 (v := ?_) (by kernel_rfl) (by kernel_rfl) (by kernel_rfl) (by kernel_rfl) (by rfl) (fun _ _ _ h => h) ?_ hHeld ?_
      rotate_left 1
      (intro o ho W hSw; simp only [List.getElem?_toArray, List.getElem?_cons_succ, List.getElem?_cons_zero, Option.some.injEq] at ho; subst ho; (try dsimp only at hSw); go_simp; try with_reducible rfl)
      (try simp only [Act.put, List.setIfInBounds_toArray, List.set_cons_zero, List.set_cons_succ])
      refine wpAnyH_onlyD 5 (by kernel_rfl) (fun o ho K hK => ?_) (by kernel_rfl)
      simp only [List.getElem?_toArray, List.getElem?_cons_succ, List.getElem?_cons_zero, Option.some.injEq] at ho
      subst ho
      go_simp
      refine (S1.out _).mono ?_
      rintro e w1 ⟨rfl, h⟩
      have Q1 := Lib.hid (Q0.out.step h)
      go_wp2_with fail
      refine hK.out _ _ (Q1.out.s hlj hkn) ?_
      clear hK K hHeld
      intro hHeld
      clear h Q0
      refine wpAnyH_onlyD 11 (by kernel_rfl) (fun o ho K hK => ?_) (by kernel_rfl)
      simp only [List.getElem?_toArray, List.getElem?_cons_succ, List.getElem?_cons_zero, Option.some.injEq] at ho
      subst ho
      go_simp
      refine (S2.out _).mono ?_
      rintro e w2 ⟨rfl, h⟩
      have Q2 := Lib.hid (Q1.out.step h)
      go_wp2_with fail
      refine hK.out _ _ (Q2.out.s hlj hkn) ?_
      clear hK K hHeld
      intro hHeld
      clear h Q1
      refine wpAnyH_onlyD 12 (by kernel_rfl) (fun o ho K hK => ?_) (by kernel_rfl)
      simp only [List.getElem?_toArray, List.getElem?_cons_succ, List.getElem?_cons_zero, Option.some.injEq] at ho
      subst ho
      go_simp
      refine (CM.out _).mono ?_
      rintro e w3 ⟨rfl, h⟩
      have Q3 := Lib.hid (Q2.out.step h)
      go_wp2_with fail
      refine hK.out _ _ (Q3.out.s hlj hkn) ?_
      clear hK K hHeld
      intro hHeld
      clear h Q2
      refine wpAnyH_takeD 13 7 (v := ?_) (by kernel_rfl) (by kernel_rfl) (by kernel_rfl) (by kernel_rfl) (by rfl) (fun _ _ _ h => h) ?_ hHeld ?_
      rotate_left 1
      (intro o ho W hSw; simp only [List.getElem?_toArray, List.getElem?_cons_succ, List.getElem?_cons_zero, Option.some.injEq] at ho; subst ho; (try dsimp only at hSw); go_simp; try with_reducible rfl)
      (try simp only [Act.put, List.setIfInBounds_toArray, List.set_cons_zero, List.set_cons_succ])
      refine wpAnyH_done (by kernel_rfl) ?_ _
      clear hHeld
      by_cases hc : cv = 0
      · have g3 := g2 hc
        subst hc
        clear g1 g2
        go_wp2
        go_roundw
        case rel => exact ⟨j + 1, by omega, by go_num, Q3.out⟩
        case measure => simp [intOf]; omega
      · clear g2
        go_wp2
        go_roundw
        case rel => exact ⟨j + 1, by omega, by go_num, Q3.out⟩
        case measure => simp [intOf]; omega
    · skip
      go_wp2_with fail
      refine (splineAwake_any HC.out _).mono ?_
      rintro e w9 ⟨rfl, h⟩
      have Q9 := Lib.hid (Q2.out.step h)
      clear h
      go_wp2
      go_ret
      exact ⟨rfl, Q9.out.l⟩
end Go.Proofs.Ytjdhjabbojceeaa
