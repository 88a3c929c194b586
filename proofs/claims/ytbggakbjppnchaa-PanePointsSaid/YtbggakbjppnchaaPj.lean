/- The walk of PanePoints. -/
import Derived.Test.YtbggakbjppnchaaPi
namespace Go.Proofs.Ytbggakbjppnchaa
open Go.RowKit
set_option linter.unusedVariables false
set_option linter.unusedSimpArgs false

/-- the cells of a round of PanePoints -/
def PtS (m bx ox bY oY bR oR br orr i k : Nat) (sx sy sr s : Value) (x y v : Int) (W : World) : Prop :=
  (W.cell? ⟨m, 0, none⟩ = some sx ∧ W.cell? ⟨m, 1, none⟩ = some sy ∧ W.cell? ⟨m, 2, none⟩ = some sr) ∧ W.cell? ⟨bx, ox + k, none⟩ = some (.int .i64 x) ∧ W.cell? ⟨bY, oY + i, none⟩ = some (.int .i64 y) ∧ W.cell? ⟨bR, oR + i, none⟩ = some s ∧ W.cell? ⟨br, orr + k, none⟩ = some (.int .i64 v)
theorem PtS.of {w W : World} {b bx ox bY oY bR oR br orr i k xn xc yn yc n c rn rc : Nat} {xv yv rv : Nat → Int} {r : Nat → Sl} (Q : PG w W b ⟨⟨some ⟨bx, ox, none⟩, xn, xc, xv⟩, ⟨some ⟨bY, oY, none⟩, yn, yc, yv⟩, some ⟨bR, oR, none⟩, n, c, r⟩) (hr : r i = ⟨some ⟨br, orr, none⟩, rn, rc, rv⟩) (h1 : k < xn) (h2 : i < n) (h3 : i < yn) (h4 : k < rn) :
    PtS w.heap.size bx ox bY oY bR oR br orr i k (.slice (some ⟨bx, ox, none⟩) xn xc) (.slice (some ⟨bY, oY, none⟩) yn yc) (.slice (some ⟨bR, oR, none⟩) n c) (.slice (some ⟨br, orr, none⟩) rn rc) (xv k) (yv i) (rv k) W := by
  obtain ⟨a1, o1, e1, _, c1⟩ := Q.p.x.at' (by show 0 < xn; omega)
  obtain ⟨a2, o2, e2, _, c2⟩ := Q.p.y.at' (by show 0 < yn; omega)
  obtain ⟨a3, o3, e3, _, c3⟩ := Q.p.at' (by show 0 < n; omega)
  have R := Q.p.r i h2
  dsimp only at e1 e2 e3 c1 c2 c3 R
  rw [hr] at R
  obtain ⟨a4, o4, e4, _, c4⟩ := R.at' (by show 0 < rn; omega)
  dsimp only at e4 c4
  cases e1; cases e2; cases e3; cases e4
  have k3 := c3 i h2
  rw [hr] at k3
  exact ⟨Q.c.h3, c1 k h1, c2 i h3, k3, c4 k h4⟩
set_option maxRecDepth 100000 in
set_option maxHeartbeats 8000000 in
theorem ppoints_walk (C : PaneC) (p : Pn) (w : World) (K : Pan w.heap.size w p) :
    Calls Try.prog 6 #[.agg #[.slice p.x.a p.x.n p.x.c, .slice p.y.a p.y.n p.y.c, .slice p.a p.n p.c]] w fun e w' => e = .returned (.bool true) ∧ Below w.heap.size w w' := by
  have Q0 := Lib.hid (PQ.new 25 K (Nat.le_refl _))
  have HC := Lib.hid C
  clear C
  by_cases F : fewP p
  rotate_left
  · go_enter Try.func6, Try.ntmps6
    go_wp2_with fail
    refine calls_gen (S := fun W => PQ w W w.heap.size w.heap.size p) Q0.out (fun W0 hS => ?_)
    have Q1 := Lib.hid hS
    clear hS Q0
    refine (few_any p w.heap.size W0 Q1.out.l.size Q1.out.p).mono ?_
    rintro e w1 ⟨rfl, h⟩
    have Q2 := Lib.hid (Q1.out.step h)
    clear h Q1
    rw [decide_eq_false F]
    go_wp2_with fail
    refine (paneAwake_any HC.out _).mono ?_
    rintro e w2 ⟨rfl, h⟩
    have Q3 := Lib.hid (Q2.out.step h)
    clear h Q2
    go_wp2
    go_ret
    exact ⟨rfl, Q3.out.l⟩
  have X3 := Lib.hid (fun (W : World) (Q : PQ w W w.heap.size w.heap.size p) => HC.out.right p w.heap.size W Q.l.size F Q.p)
  by_cases hp : paneR p = 0
  rotate_left
  · generalize paneR p = q at *
    go_enter Try.func6, Try.ntmps6
    go_wp2_with fail
    refine calls_gen (S := fun W => PQ w W w.heap.size w.heap.size p) Q0.out (fun W0 hS => ?_)
    have Q1 := Lib.hid hS
    clear hS Q0
    refine (few_any p w.heap.size W0 Q1.out.l.size Q1.out.p).mono ?_
    rintro e w1 ⟨rfl, h⟩
    have Q2 := Lib.hid (Q1.out.step h)
    clear h Q1
    rw [decide_eq_true F]
    obtain ⟨c0, c1, c2⟩ := Q2.out.k.h3
    go_wp2_with fail
    refine (X3.out _ Q2.out).mono ?_
    rintro e w2 ⟨rfl, h⟩
    have Q3 := Lib.hid (Q2.out.step h)
    clear h Q2 c0 c1 c2 F
    go_wp2_with fail
    refine (paneAwake_any HC.out _).mono ?_
    rintro e w3 ⟨rfl, h⟩
    have Q4 := Lib.hid (Q3.out.step h)
    clear h Q3
    go_wp2
    go_ret
    exact ⟨rfl, Q4.out.l⟩
  have X1 := Lib.hid (fun (i k : Nat) (hi : i < p.n) (hk : k < p.x.n) (b : Nat) (W : World) (Q : PG w W b p) => by
    have := HC.out.eval p (p.x.v k) (p.y.v i) b 0 false w.heap.size W Q.l.size (Q.p.off (by have := Q.e; omega)) F Q.p Q.m (bounds_i64 (Q.p.x.wf k hk)) (bounds_i64 (Q.p.y.wf i (by have := (paneR_ok hp).1.1; omega)))
    rw [pane_point hp hi hk] at this
    exact this)
  rw [hp] at X3
  have HK := Lib.hid K
  obtain ⟨⟨s1, s2⟩, -⟩ := paneR_ok hp
  have HF := Lib.hid F
  clear hp K F
  obtain ⟨⟨xa, xn, xc, xv⟩, ⟨ya, yn, yc, yv⟩, a, n, c, r⟩ := p
  dsimp only at *
  obtain ⟨s3, s4, s5, s6, rfl⟩ := s1
  have S2 := Lib.hid s2
  clear s2
  obtain ⟨bx, ox, hxa, -, -⟩ := HK.out.x.at' (by show 0 < xn; omega)
  obtain ⟨bY, oY, hya, -, -⟩ := HK.out.y.at' (by show 0 < n; omega)
  obtain ⟨bR, oR, hra, -, -⟩ := HK.out.at' (by show 0 < n; omega)
  dsimp only at hxa hya hra
  subst hxa hya hra
  go_enter Try.func6, Try.ntmps6
  go_wp2_with fail
  refine calls_gen (S := fun W => PQ w W w.heap.size w.heap.size ⟨⟨some ⟨bx, ox, none⟩, xn, xc, xv⟩, ⟨some ⟨bY, oY, none⟩, n, yc, yv⟩, some ⟨bR, oR, none⟩, n, c, r⟩) Q0.out (fun W0 hS => ?_)
  have Q1 := Lib.hid hS
  clear hS Q0
  refine (few_any ⟨⟨some ⟨bx, ox, none⟩, xn, xc, xv⟩, ⟨some ⟨bY, oY, none⟩, n, yc, yv⟩, some ⟨bR, oR, none⟩, n, c, r⟩ w.heap.size W0 Q1.out.l.size Q1.out.p).mono ?_
  rintro e w1 ⟨rfl, h⟩
  have Q2 := Lib.hid (Q1.out.step h)
  clear h Q1
  rw [decide_eq_true HF.out]
  obtain ⟨c0, c1, c2⟩ := Q2.out.k.h3
  dsimp only at c0 c1 c2
  go_wp2_with fail
  refine (X3.out _ Q2.out).mono ?_
  rintro e w2 ⟨rfl, h⟩
  have Q3 := Lib.hid (Q2.out.step h)
  clear h Q2 c0 c1 c2
  have z9 : w.heap.size < w2.heap.size := Q3.out.k.lt
  go_wp2_with fail
  refine wp_gen (S := fun W => PG w W w2.heap.size ⟨⟨some ⟨bx, ox, none⟩, xn, xc, xv⟩, ⟨some ⟨bY, oY, none⟩, n, yc, yv⟩, some ⟨bR, oR, none⟩, n, c, r⟩) ⟨(Q3.out.alloc _).k, MAt.new w2 _ _, (Q3.out.alloc _).l, (Q3.out.alloc _).p, z9⟩ (fun W1 hS => ?_)
  have G0 := Lib.hid hS
  clear hS Q3
  generalize w2.heap.size = m at *
  go_loopw [4] (fun i wr => ∃ j : Nat, j ≤ n ∧ i = .int .i64 j ∧ PG w wr m ⟨⟨some ⟨bx, ox, none⟩, xn, xc, xv⟩, ⟨some ⟨bY, oY, none⟩, n, yc, yv⟩, some ⟨bR, oR, none⟩, n, c, r⟩) (fun i _ => n - (intOf i).toNat)
  case atStart => exact ⟨0, by omega, rfl, G0.out⟩
  case round =>
    obtain ⟨j, hj, rfl, hG⟩ := hrel
    have G1 := Lib.hid hG
    obtain ⟨c0, c1, c2⟩ := hG.c.h3
    dsimp only at c0 c1 c2
    clear hG G0
    by_cases hlt : j < n
    · have z0 : (0 : Int) ≤ (j : Int) := by omega
      have z1 : (j : Int) < (n : Int) := by omega
      obtain ⟨⟨ra, rn, rc, rv⟩, hr⟩ : ∃ s, r j = s := ⟨_, rfl⟩
      have hrn : rn = xn := by have := S2.out j hlt; rw [hr] at this; exact this
      subst hrn
      have hR := HK.out.r j hlt
      dsimp only at hR
      rw [hr] at hR
      obtain ⟨br, orr, hbr, -, -⟩ := hR.at' (by show 0 < rn; omega)
      dsimp only at hbr
      subst hbr
      clear hR
      have RR := Lib.hid hr
      have XV := Lib.hid (fun (k : Nat) (hk : k < rn) (W : World) (Q : PG w W m ⟨⟨some ⟨bx, ox, none⟩, rn, xc, xv⟩, ⟨some ⟨bY, oY, none⟩, n, yc, yv⟩, some ⟨bR, oR, none⟩, n, c, r⟩) => by
        have := X1.out j k hlt hk m W Q
        rw [hr] at this
        exact this)
      clear hr
      go_wp2
      go_loopw [5] (fun i wr => ∃ k : Nat, k ≤ rn ∧ i = .int .i64 k ∧ PG w wr m ⟨⟨some ⟨bx, ox, none⟩, rn, xc, xv⟩, ⟨some ⟨bY, oY, none⟩, n, yc, yv⟩, some ⟨bR, oR, none⟩, n, c, r⟩) (fun i _ => rn - (intOf i).toNat)
      case atStart => exact ⟨0, by omega, rfl, G1.out⟩
      case round =>
        obtain ⟨k, hk, rfl, hG⟩ := hrel
        have G2 := Lib.hid hG
        clear hG G1 c0 c1 c2
        by_cases hkt : k < rn
        · have z2 : (0 : Int) ≤ (k : Int) := by omega
          have z3 : (k : Int) < (rn : Int) := by omega
          have T0 := Lib.hid (PtS.of (G2.out.step (Below.refl _ _).drew) RR.out hkt hlt hlt hkt)
          obtain ⟨⟨c0, c1, c2⟩, c3, c4, c5, c6⟩ := PtS.of G2.out RR.out hkt hlt hlt hkt
          go_wp2_with fail
          refine wp_region_held_drew (S := PtS w.heap.size bx ox bY oY bR oR br orr j k (.slice (some ⟨bx, ox, none⟩) rn xc) (.slice (some ⟨bY, oY, none⟩) n yc) (.slice (some ⟨bR, oR, none⟩) n c) (.slice (some ⟨br, orr, none⟩) rn rc) (xv k) (yv j) (rv k)) (by kernel_rfl) T0.out (fun hHeld => ?_)
          have G3 := Lib.hid (G2.out.step (Below.refl _ _).drew)
          clear G2 c0 c1 c2 c3 c4 c5 c6 T0
          generalize wr.drew = w0 at *
          unfold PtS at hHeld ⊢
          refine wpAnyH_takeD 0 48 (v := ?_) (by kernel_rfl) (by kernel_rfl) (by kernel_rfl) (by kernel_rfl) (by rfl) (fun _ _ _ h => h) ?_ hHeld ?_
          rotate_left 1
          (intro o ho W hSw; simp only [List.getElem?_toArray, List.getElem?_cons_succ, List.getElem?_cons_zero, Option.some.injEq] at ho; subst ho; (try dsimp only at hSw); go_simp; try with_reducible rfl)
          (try simp only [Act.put, List.setIfInBounds_toArray, List.set_cons_zero, List.set_cons_succ])
          refine wpAnyH_takeD 1 49 (v := ?_) (by kernel_rfl) (by kernel_rfl) (by kernel_rfl) (by kernel_rfl) (by rfl) (fun _ _ _ h => h) ?_ hHeld ?_
          rotate_left 1
          (intro o ho W hSw; simp only [List.getElem?_toArray, List.getElem?_cons_succ, List.getElem?_cons_zero, Option.some.injEq] at ho; subst ho; (try dsimp only at hSw); go_simp; try with_reducible rfl)
          (try simp only [Act.put, List.setIfInBounds_toArray, List.set_cons_zero, List.set_cons_succ])
          refine wpAnyH_takeD 2 50 (v := ?_) (by kernel_rfl) (by kernel_rfl) (by kernel_rfl) (by kernel_rfl) (by rfl) (fun _ _ _ h => h) ?_ hHeld ?_
          rotate_left 1
          (intro o ho W hSw; simp only [List.getElem?_toArray, List.getElem?_cons_succ, List.getElem?_cons_zero, Option.some.injEq] at ho; subst ho; (try dsimp only at hSw); go_simp; try with_reducible rfl)
          (try simp only [Act.put, List.setIfInBounds_toArray, List.set_cons_zero, List.set_cons_succ])
          refine wpAnyH_takeD 3 51 (v := ?_) (by kernel_rfl) (by kernel_rfl) (by kernel_rfl) (by kernel_rfl) (by rfl) (fun _ _ _ h => h) ?_ hHeld ?_
          rotate_left 1
          (intro o ho W hSw; simp only [List.getElem?_toArray, List.getElem?_cons_succ, List.getElem?_cons_zero, Option.some.injEq] at ho; subst ho; (try dsimp only at hSw); go_simp; try with_reducible rfl)
          (try simp only [Act.put, List.setIfInBounds_toArray, List.set_cons_zero, List.set_cons_succ])
          refine wpAnyH_takeD 4 52 (v := ?_) (by kernel_rfl) (by kernel_rfl) (by kernel_rfl) (by kernel_rfl) (by rfl) (fun _ _ _ h => h) ?_ hHeld ?_
          rotate_left 1
          (intro o ho W hSw; simp only [List.getElem?_toArray, List.getElem?_cons_succ, List.getElem?_cons_zero, Option.some.injEq] at ho; subst ho; (try dsimp only at hSw); go_simp; try with_reducible rfl)
          (try simp only [Act.put, List.setIfInBounds_toArray, List.set_cons_zero, List.set_cons_succ])
          refine wpAnyH_takeD 5 53 (v := ?_) (by kernel_rfl) (by kernel_rfl) (by kernel_rfl) (by kernel_rfl) (by rfl) (fun _ _ _ h => h) ?_ hHeld ?_
          rotate_left 1
          (intro o ho W hSw; simp only [List.getElem?_toArray, List.getElem?_cons_succ, List.getElem?_cons_zero, Option.some.injEq] at ho; subst ho; (try dsimp only at hSw); go_simp; try with_reducible rfl)
          (try simp only [Act.put, List.setIfInBounds_toArray, List.set_cons_zero, List.set_cons_succ])
          refine wpAnyH_takeD 6 54 (v := ?_) (by kernel_rfl) (by kernel_rfl) (by kernel_rfl) (by kernel_rfl) (by rfl) (fun _ _ _ h => h) ?_ hHeld ?_
          rotate_left 1
          (intro o ho W hSw; simp only [List.getElem?_toArray, List.getElem?_cons_succ, List.getElem?_cons_zero, Option.some.injEq] at ho; subst ho; (try dsimp only at hSw); go_simp; try with_reducible rfl)
          (try simp only [Act.put, List.setIfInBounds_toArray, List.set_cons_zero, List.set_cons_succ])
          refine wpAnyH_takeD 7 55 (v := ?_) (by kernel_rfl) (by kernel_rfl) (by kernel_rfl) (by kernel_rfl) (by rfl) (fun _ _ _ h => h) ?_ hHeld ?_
          rotate_left 1
          (intro o ho W hSw; simp only [List.getElem?_toArray, List.getElem?_cons_succ, List.getElem?_cons_zero, Option.some.injEq] at ho; subst ho; (try dsimp only at hSw); go_simp; try with_reducible rfl)
          (try simp only [Act.put, List.setIfInBounds_toArray, List.set_cons_zero, List.set_cons_succ])
          refine wpAnyH_takeD 8 56 (v := ?_) (by kernel_rfl) (by kernel_rfl) (by kernel_rfl) (by kernel_rfl) (by rfl) (fun _ _ _ h => h) ?_ hHeld ?_
          rotate_left 1
          (intro o ho W hSw; simp only [List.getElem?_toArray, List.getElem?_cons_succ, List.getElem?_cons_zero, Option.some.injEq] at ho; subst ho; (try dsimp only at hSw); go_simp; try with_reducible rfl)
          (try simp only [Act.put, List.setIfInBounds_toArray, List.set_cons_zero, List.set_cons_succ])
          refine wpAnyH_takeD 9 57 (v := ?_) (by kernel_rfl) (by kernel_rfl) (by kernel_rfl) (by kernel_rfl) (by rfl) (fun _ _ _ h => h) ?_ hHeld ?_
          rotate_left 1
          (intro o ho W hSw; simp only [List.getElem?_toArray, List.getElem?_cons_succ, List.getElem?_cons_zero, Option.some.injEq] at ho; subst ho; (try dsimp only at hSw); go_simp; try with_reducible rfl)
          (try simp only [Act.put, List.setIfInBounds_toArray, List.set_cons_zero, List.set_cons_succ])
          refine wpAnyH_takeD 10 58 (v := ?_) (by kernel_rfl) (by kernel_rfl) (by kernel_rfl) (by kernel_rfl) (by rfl) (fun _ _ _ h => h) ?_ hHeld ?_
          rotate_left 1
          (intro o ho W hSw; simp only [List.getElem?_toArray, List.getElem?_cons_succ, List.getElem?_cons_zero, Option.some.injEq] at ho; subst ho; (try dsimp only at hSw); go_simp; try with_reducible rfl)
          (try simp only [Act.put, List.setIfInBounds_toArray, List.set_cons_zero, List.set_cons_succ])
          refine wpAnyH_takeD 11 59 (v := ?_) (by kernel_rfl) (by kernel_rfl) (by kernel_rfl) (by kernel_rfl) (by rfl) (fun _ _ _ h => h) ?_ hHeld ?_
          rotate_left 1
          (intro o ho W hSw; simp only [List.getElem?_toArray, List.getElem?_cons_succ, List.getElem?_cons_zero, Option.some.injEq] at ho; subst ho; (try dsimp only at hSw); go_simp; try with_reducible rfl)
          (try simp only [Act.put, List.setIfInBounds_toArray, List.set_cons_zero, List.set_cons_succ])
          refine wpAnyH_takeD 13 61 (v := ?_) (by kernel_rfl) (by kernel_rfl) (by kernel_rfl) (by kernel_rfl) (by rfl) (fun _ _ _ h => h) ?_ hHeld ?_
          rotate_left 1
          (intro o ho W hSw; simp only [List.getElem?_toArray, List.getElem?_cons_succ, List.getElem?_cons_zero, Option.some.injEq] at ho; subst ho; (try dsimp only at hSw); go_simp; try with_reducible rfl)
          (try simp only [Act.put, List.setIfInBounds_toArray, List.set_cons_zero, List.set_cons_succ])
          refine wpAnyH_takeD 14 62 (v := ?_) (by kernel_rfl) (by kernel_rfl) (by kernel_rfl) (by kernel_rfl) (by rfl) (fun _ _ _ h => h) ?_ hHeld ?_
          rotate_left 1
          (intro o ho W hSw; simp only [List.getElem?_toArray, List.getElem?_cons_succ, List.getElem?_cons_zero, Option.some.injEq] at ho; subst ho; (try dsimp only at hSw); go_simp; try with_reducible rfl)
          (try simp only [Act.put, List.setIfInBounds_toArray, List.set_cons_zero, List.set_cons_succ])
          refine wpAnyH_takeD 15 63 (v := ?_) (by kernel_rfl) (by kernel_rfl) (by kernel_rfl) (by kernel_rfl) (by rfl) (fun _ _ _ h => h) ?_ hHeld ?_
          rotate_left 1
          (intro o ho W hSw; simp only [List.getElem?_toArray, List.getElem?_cons_succ, List.getElem?_cons_zero, Option.some.injEq] at ho; subst ho; (try dsimp only at hSw); go_simp; try with_reducible rfl)
          (try simp only [Act.put, List.setIfInBounds_toArray, List.set_cons_zero, List.set_cons_succ])
          refine wpAnyH_takeD 16 64 (v := ?_) (by kernel_rfl) (by kernel_rfl) (by kernel_rfl) (by kernel_rfl) (by rfl) (fun _ _ _ h => h) ?_ hHeld ?_
          rotate_left 1
          (intro o ho W hSw; simp only [List.getElem?_toArray, List.getElem?_cons_succ, List.getElem?_cons_zero, Option.some.injEq] at ho; subst ho; (try dsimp only at hSw); go_simp; try with_reducible rfl)
          (try simp only [Act.put, List.setIfInBounds_toArray, List.set_cons_zero, List.set_cons_succ])
          refine wpAnyH_takeD 17 65 (v := ?_) (by kernel_rfl) (by kernel_rfl) (by kernel_rfl) (by kernel_rfl) (by rfl) (fun _ _ _ h => h) ?_ hHeld ?_
          rotate_left 1
          (intro o ho W hSw; simp only [List.getElem?_toArray, List.getElem?_cons_succ, List.getElem?_cons_zero, Option.some.injEq] at ho; subst ho; (try dsimp only at hSw); go_simp; try with_reducible rfl)
          (try simp only [Act.put, List.setIfInBounds_toArray, List.set_cons_zero, List.set_cons_succ])
          refine wpAnyH_takeD 18 66 (v := ?_) (by kernel_rfl) (by kernel_rfl) (by kernel_rfl) (by kernel_rfl) (by rfl) (fun _ _ _ h => h) ?_ hHeld ?_
          rotate_left 1
          (intro o ho W hSw; simp only [List.getElem?_toArray, List.getElem?_cons_succ, List.getElem?_cons_zero, Option.some.injEq] at ho; subst ho; (try dsimp only at hSw); go_simp; try with_reducible rfl)
          (try simp only [Act.put, List.setIfInBounds_toArray, List.set_cons_zero, List.set_cons_succ])
          refine wpAnyH_takeD 19 67 (v := ?_) (by kernel_rfl) (by kernel_rfl) (by kernel_rfl) (by kernel_rfl) (by rfl) (fun _ _ _ h => h) ?_ hHeld ?_
          rotate_left 1
          (intro o ho W hSw; simp only [List.getElem?_toArray, List.getElem?_cons_succ, List.getElem?_cons_zero, Option.some.injEq] at ho; subst ho; (try dsimp only at hSw); go_simp; try with_reducible rfl)
          (try simp only [Act.put, List.setIfInBounds_toArray, List.set_cons_zero, List.set_cons_succ])
          refine wpAnyH_takeD 20 68 (v := ?_) (by kernel_rfl) (by kernel_rfl) (by kernel_rfl) (by kernel_rfl) (by rfl) (fun _ _ _ h => h) ?_ hHeld ?_
          rotate_left 1
          (intro o ho W hSw; simp only [List.getElem?_toArray, List.getElem?_cons_succ, List.getElem?_cons_zero, Option.some.injEq] at ho; subst ho; (try dsimp only at hSw); go_simp; try with_reducible rfl)
          (try simp only [Act.put, List.setIfInBounds_toArray, List.set_cons_zero, List.set_cons_succ])
          refine wpAnyH_onlyD 12 (by kernel_rfl) (fun o ho K hK => ?_) (by kernel_rfl)
          simp only [List.getElem?_toArray, List.getElem?_cons_succ, List.getElem?_cons_zero, Option.some.injEq] at ho
          subst ho
          go_simp
          refine (XV.out k hkt _ G3.out).mono ?_
          rintro e w3 ⟨rfl, h⟩
          have G4 := Lib.hid (G3.out.fx h)
          go_wp2_with fail
          refine hK.out _ _ (PtS.of G4.out RR.out hkt hlt hlt hkt) ?_
          clear hK K hHeld
          intro hHeld
          clear h G3
          refine wpAnyH_takeD 21 69 (v := ?_) (by kernel_rfl) (by kernel_rfl) (by kernel_rfl) (by kernel_rfl) (by rfl) (fun _ _ _ h => h) ?_ hHeld ?_
          rotate_left 1
          (intro o ho W hSw; simp only [List.getElem?_toArray, List.getElem?_cons_succ, List.getElem?_cons_zero, Option.some.injEq] at ho; subst ho; (try dsimp only at hSw); go_simp; try with_reducible rfl)
          (try simp only [Act.put, List.setIfInBounds_toArray, List.set_cons_zero, List.set_cons_succ])
          refine wpAnyH_done (by kernel_rfl) ?_ _
          clear hHeld
          go_wp2
          go_roundw
          case rel => exact ⟨k + 1, by omega, by go_num, G4.out⟩
          case measure => simp [intOf]; omega
        · have z3 : ¬ (k : Int) < (rn : Int) := by omega
          obtain ⟨c0, c1, c2⟩ := G2.out.c.h3
          dsimp only at c0 c1 c2
          go_wp2
          go_roundw
          case rel => exact ⟨j + 1, by omega, by go_num, G2.out⟩
          case measure => simp [intOf]; omega
    · have z1 : ¬ (j : Int) < (n : Int) := by omega
      go_wp2_with fail
      refine (paneAwake_any HC.out _).mono ?_
      rintro e w5 ⟨rfl, h⟩
      have G3 := Lib.hid (G1.out.step h)
      clear h G1 c0 c1 c2
      go_wp2
      go_ret
      exact ⟨rfl, G3.out.l⟩
end Go.Proofs.Ytbggakbjppnchaa
