/- Contracts of the document's table: Bound, Eval. -/
import Derived.Test.YtbggakbjppnchaaOc
import Derived.Test.YtbggakbjppnchaaHe
import Derived.Test.YtbggakbjppnchaaKz
namespace Go.Proofs.Ytbggakbjppnchaa
open Go.RowKit
set_option linter.unusedVariables false
set_option linter.unusedSimpArgs false

theorem wrap_last {len n : Nat} (hn : n + 1 = len) (h : len ≤ 100) : IntKind.i64.wrap ((len : Int) - 1) = (n : Int) ∧ wrap64 ((len : Int) - 1) = (n : Int) := by
  have e : (len : Int) - 1 = (n : Int) := by omega
  rw [e]
  exact ⟨IntWalk.i64_in _ (by omega), by unfold wrap64; omega⟩
theorem wrap_next {c d len : Nat} (hd : c + 1 = d) (h : d < len) (h2 : len ≤ 100) : IntKind.i64.wrap ((c : Int) + 1) = (d : Int) ∧ wrap64 ((c : Int) + 1) = (d : Int) ∧ IntKind.i64.wrap (d : Int) = (d : Int) ∧ wrap64 (d : Int) = (d : Int) := by
  have e : (c : Int) + 1 = (d : Int) := by omega
  rw [e]
  exact ⟨IntWalk.i64_in _ (by omega), by unfold wrap64; omega, IntWalk.i64_in _ (by omega), by unfold wrap64; omega⟩
theorem BW.h2'' {W : World} {n : Nat} {a b : Value} (k : BW W n [a, b]) : W.cell? ⟨n, 0, none⟩ = some a ∧ W.cell? ⟨n, 1, none⟩ = some b := ⟨k.c 0 _ rfl, k.c 1 _ rfl⟩
set_option maxRecDepth 100000 in
set_option maxHeartbeats 8000000 in
theorem rTEval_any (a : Option Addr) (len cap : Nat) (X Y : Nat → Int) (x : Int) (b k : Nat) (o : Bool) (w : World) (hmax : len ≤ 100) (hx : In64 x) (D : Dots w a len cap X Y) (m : MAt w b k o) :
    Calls Try.prog 30 #[.pointer (some ⟨b, k, none⟩), .slice a len cap, .int .i64 x] w fun e w' => e = .returned (.int .i64 (evalN len X Y x)) ∧ FxW w.heap.size w b k (o || evalO len X Y x) w' := by
  have HD := Lib.hid D
  have HM := Lib.hid m
  have hlt := m.lt
  clear D m
  by_cases l0 : len = 0
  · have E1 := Lib.hid (show evalN len X Y x = 0 ∧ (o || evalO len X Y x) = o by unfold evalN evalO; rw [if_pos l0, if_pos l0]; simp)
    rw [E1.out.1, E1.out.2]
    go_enter Try.func30, Try.ntmps30
    go_wp2
    go_ret
    exact ⟨rfl, (Flag.start HM.out (Below.refl _ _)).f⟩
  · obtain ⟨n, hn⟩ : ∃ n, n + 1 = len := ⟨len - 1, by omega⟩
    obtain ⟨bs, off, rfl, hb, hcell⟩ := HD.out.at' (by omega)
    have n0 := (hcell n (by omega)).1
    have n1 := (hcell n (by omega)).2
    have z0 := (hcell 0 (by omega)).1
    have z1 := (hcell 0 (by omega)).2
    simp only [Nat.zero_mul, Nat.add_zero] at z0 z1
    have V := Lib.hid (wrap_last hn hmax)
    have hnl : n < len := by omega
    have en : len - 1 = n := by omega
    by_cases c1 : x ≤ X 0
    · have E1 := Lib.hid (show evalN len X Y x = Y 0 ∧ (o || evalO len X Y x) = o by unfold evalN evalO; rw [if_neg l0, if_neg l0, if_pos c1, if_pos c1]; simp)
      rw [E1.out.1, E1.out.2]
      obtain ⟨v1, v2⟩ := V.out
      go_enter Try.func30, Try.ntmps30
      go_wp2
      go_ret
      exact ⟨rfl, (Flag.start HM.out (by repeat (first | exact Below.refl _ _ | assumption | refine Below.setCell ?_ (by first | omega | (simp; done) | (simp; omega)) _ | refine Below.alloc ?_ (by first | omega | (simp; done) | (simp; omega)) _ | refine below_drewN ?_ _ | refine Below.drew ?_ | refine Below.trans ?_ (Below.mono (by assumption) (by first | omega | (simp; done) | (simp; omega)))))).f⟩
    · by_cases c2 : X n ≤ x
      · have E1 := Lib.hid (show evalN len X Y x = Y n ∧ (o || evalO len X Y x) = o by unfold evalN evalO; rw [if_neg l0, if_neg l0, if_neg c1, if_neg c1, en, if_pos c2, if_pos c2]; simp)
        rw [E1.out.1, E1.out.2]
        obtain ⟨v1, v2⟩ := V.out
        go_enter Try.func30, Try.ntmps30
        go_wp2
        go_ret
        exact ⟨rfl, (Flag.start HM.out (by repeat (first | exact Below.refl _ _ | assumption | refine Below.setCell ?_ (by first | omega | (simp; done) | (simp; omega)) _ | refine Below.alloc ?_ (by first | omega | (simp; done) | (simp; omega)) _ | refine below_drewN ?_ _ | refine Below.drew ?_ | refine Below.trans ?_ (Below.mono (by assumption) (by first | omega | (simp; done) | (simp; omega)))))).f⟩
      · have n2 : 0 < n := by
          apply Classical.byContradiction; intro g
          have : n = 0 := by omega
          rw [this] at c2; omega
        obtain ⟨c, hc⟩ : ∃ c, cellUp X x n = c := ⟨_, rfl⟩
        have hcn : c + 1 ≤ n := by have := cellUp_le X x n; omega
        have XC := Lib.hid (fun (W : World) (D : Dots W (some ⟨bs, off, none⟩) len cap X Y) => rTCell_any (some ⟨bs, off, none⟩) len cap X Y x W hmax D)
        rw [en, hc] at XC
        have i0 := (hcell c (by omega)).1
        have i1 := (hcell c (by omega)).2
        have j0 := (hcell (c + 1) (by omega)).1
        have j1 := (hcell (c + 1) (by omega)).2
        have e2 : off + (c + 1) * 2 = off + c * 2 + 2 := by omega
        have w0 := Lib.hid (HD.out.wf c (by omega))
        have w1' := Lib.hid (HD.out.wf (c + 1) (by omega))
        have E1 := Lib.hid (show segF (X c) (X (c + 1)) (Y c) (Y (c + 1)) x = evalN len X Y x ∧ (o || segO (X c) (X (c + 1)) (Y c) (Y (c + 1)) x) = (o || evalO len X Y x) by
          unfold evalN evalO; rw [if_neg l0, if_neg l0, if_neg c1, if_neg c1, en, if_neg c2, if_neg c2, hc]; exact ⟨rfl, rfl⟩)
        rw [← E1.out.1, ← E1.out.2]
        clear E1 hc
        have hnn : n ≤ 99 := by omega
        clear hcell e2 en hn l0
        obtain ⟨d, hd⟩ : ∃ d, c + 1 = d := ⟨_, rfl⟩
        rw [hd] at j0 j1 w1' ⊢
        have hdl : d < len := by omega
        have hcl : c < len := by omega
        obtain ⟨v3, v4, v5, v6⟩ := wrap_next hd hdl hmax
        obtain ⟨v1, v2⟩ := V.out
        clear hd hcn hnn
        go_enter Try.func30, Try.ntmps30
        go_wp2_with fail
        refine (XC.out _ (HD.out.below ((Below.refl w.heap.size w).alloc (Nat.le_refl _) _) (Nat.le_refl _))).mono ?_
        rintro e w1 ⟨rfl, rfl⟩
        go_wp2_with fail
        have IA := Lib.hid (And.intro (show In64 (X c) from bounds_i64 w0.out.1) (show In64 (Y c) from bounds_i64 w0.out.2))
        have IB := Lib.hid (And.intro (show In64 (X d) from bounds_i64 w1'.out.1) (show In64 (Y d) from bounds_i64 w1'.out.2))
        clear i0 i1 j0 j1 n0 n1 z0 z1 w0 w1' v1 v2 v3 v4 v5 v6 XC c1 c2
        refine wp_gen (S := fun W => BW W (w.heap.size + 1) [.int .i64 (X c), .int .i64 (Y c)] ∧ BW W (w.heap.size + 1 + 1) [.int .i64 (X d), .int .i64 (Y d)] ∧ Below w.heap.size w W) ⟨(BW.new _ _ [_, _] _ (by simp)).alloc _, BW.new _ _ [_, _] _ (by simp), by repeat (first | exact Below.refl _ _ | assumption | refine Below.setCell ?_ (by first | omega | (simp; done) | (simp; omega)) _ | refine Below.alloc ?_ (by first | omega | (simp; done) | (simp; omega)) _ | refine below_drewN ?_ _ | refine Below.drew ?_ | refine Below.trans ?_ (Below.mono (by assumption) (by first | omega | (simp; done) | (simp; omega))))⟩ (fun W1 hS => ?_)
        have A0 := Lib.hid hS.1.drew
        have B0 := Lib.hid hS.2.1.drew
        have G0 := Lib.hid ((Flag.start HM.out hS.2.2).more ((Below.refl _ _).drew))
        clear hS
        refine wp_region_held_drew (S := fun W => (W.cell? ⟨w.heap.size + 1, 0, none⟩ = some (.int .i64 (X c)) ∧ W.cell? ⟨w.heap.size + 1, 1, none⟩ = some (.int .i64 (Y c))) ∧ (W.cell? ⟨w.heap.size + 1 + 1, 0, none⟩ = some (.int .i64 (X d)) ∧ W.cell? ⟨w.heap.size + 1 + 1, 1, none⟩ = some (.int .i64 (Y d)))) (by kernel_rfl) ⟨A0.out.h2'', B0.out.h2''⟩ (fun hHeld => ?_)
        generalize W1.drew = W2 at *
        refine wpAnyH_takeD 0 48 (v := ?_) (by kernel_rfl) (by kernel_rfl) (by kernel_rfl) (by kernel_rfl) (by rfl) (fun _ _ _ h => h) ?_ hHeld ?_
        rotate_left 1
        (intro o ho W hSw; simp only [List.getElem?_toArray, List.getElem?_cons_succ, List.getElem?_cons_zero, Option.some.injEq] at ho; subst ho; (try dsimp only at hSw); go_simp; try with_reducible rfl)
        (try simp only [Act.put, List.setIfInBounds_toArray, List.set_cons_zero, List.set_cons_succ])
        refine wpAnyH_takeD 1 49 (v := ?_) (by kernel_rfl) (by kernel_rfl) (by kernel_rfl) (by kernel_rfl) (by rfl) (fun _ _ _ h => h) ?_ hHeld ?_
        rotate_left 1
        (intro o ho W hSw; simp only [List.getElem?_toArray, List.getElem?_cons_succ, List.getElem?_cons_zero, Option.some.injEq] at ho; subst ho; (try dsimp only at hSw); go_simp; try with_reducible rfl)
        (try simp only [Act.put, List.setIfInBounds_toArray, List.set_cons_zero, List.set_cons_succ])
        refine wpAnyH_takeD 2 50 (v := ?_) (by kernel_rfl) (by kernel_rfl) (by kernel_rfl) (by kernel_rfl) (by rfl) (fun _ _ _ h => h) ?_ hHeld ?_
        rotate_left 1
        (intro o ho W hSw; simp only [List.getElem?_toArray, List.getElem?_cons_succ, List.getElem?_cons_zero, Option.some.injEq] at ho; subst ho; (try dsimp only at hSw); go_simp; try with_reducible rfl)
        (try simp only [Act.put, List.setIfInBounds_toArray, List.set_cons_zero, List.set_cons_succ])
        refine wpAnyH_takeD 3 51 (v := ?_) (by kernel_rfl) (by kernel_rfl) (by kernel_rfl) (by kernel_rfl) (by rfl) (fun _ _ _ h => h) ?_ hHeld ?_
        rotate_left 1
        (intro o ho W hSw; simp only [List.getElem?_toArray, List.getElem?_cons_succ, List.getElem?_cons_zero, Option.some.injEq] at ho; subst ho; (try dsimp only at hSw); go_simp; try with_reducible rfl)
        (try simp only [Act.put, List.setIfInBounds_toArray, List.set_cons_zero, List.set_cons_succ])
        refine wpAnyH_takeD 4 52 (v := ?_) (by kernel_rfl) (by kernel_rfl) (by kernel_rfl) (by kernel_rfl) (by rfl) (fun _ _ _ h => h) ?_ hHeld ?_
        rotate_left 1
        (intro o ho W hSw; simp only [List.getElem?_toArray, List.getElem?_cons_succ, List.getElem?_cons_zero, Option.some.injEq] at ho; subst ho; (try dsimp only at hSw); go_simp; try with_reducible rfl)
        (try simp only [Act.put, List.setIfInBounds_toArray, List.set_cons_zero, List.set_cons_succ])
        refine wpAnyH_takeD 5 53 (v := ?_) (by kernel_rfl) (by kernel_rfl) (by kernel_rfl) (by kernel_rfl) (by rfl) (fun _ _ _ h => h) ?_ hHeld ?_
        rotate_left 1
        (intro o ho W hSw; simp only [List.getElem?_toArray, List.getElem?_cons_succ, List.getElem?_cons_zero, Option.some.injEq] at ho; subst ho; (try dsimp only at hSw); go_simp; try with_reducible rfl)
        (try simp only [Act.put, List.setIfInBounds_toArray, List.set_cons_zero, List.set_cons_succ])
        refine wpAnyH_takeD 6 54 (v := ?_) (by kernel_rfl) (by kernel_rfl) (by kernel_rfl) (by kernel_rfl) (by rfl) (fun _ _ _ h => h) ?_ hHeld ?_
        rotate_left 1
        (intro o ho W hSw; simp only [List.getElem?_toArray, List.getElem?_cons_succ, List.getElem?_cons_zero, Option.some.injEq] at ho; subst ho; (try dsimp only at hSw); go_simp; try with_reducible rfl)
        (try simp only [Act.put, List.setIfInBounds_toArray, List.set_cons_zero, List.set_cons_succ])
        refine wpAnyH_takeD 7 55 (v := ?_) (by kernel_rfl) (by kernel_rfl) (by kernel_rfl) (by kernel_rfl) (by rfl) (fun _ _ _ h => h) ?_ hHeld ?_
        rotate_left 1
        (intro o ho W hSw; simp only [List.getElem?_toArray, List.getElem?_cons_succ, List.getElem?_cons_zero, Option.some.injEq] at ho; subst ho; (try dsimp only at hSw); go_simp; try with_reducible rfl)
        (try simp only [Act.put, List.setIfInBounds_toArray, List.set_cons_zero, List.set_cons_succ])
        refine wpAnyH_takeD 8 56 (v := ?_) (by kernel_rfl) (by kernel_rfl) (by kernel_rfl) (by kernel_rfl) (by rfl) (fun _ _ _ h => h) ?_ hHeld ?_
        rotate_left 1
        (intro o ho W hSw; simp only [List.getElem?_toArray, List.getElem?_cons_succ, List.getElem?_cons_zero, Option.some.injEq] at ho; subst ho; (try dsimp only at hSw); go_simp; try with_reducible rfl)
        (try simp only [Act.put, List.setIfInBounds_toArray, List.set_cons_zero, List.set_cons_succ])
        refine wpAnyH_takeD 9 57 (v := ?_) (by kernel_rfl) (by kernel_rfl) (by kernel_rfl) (by kernel_rfl) (by rfl) (fun _ _ _ h => h) ?_ hHeld ?_
        rotate_left 1
        (intro o ho W hSw; simp only [List.getElem?_toArray, List.getElem?_cons_succ, List.getElem?_cons_zero, Option.some.injEq] at ho; subst ho; (try dsimp only at hSw); go_simp; try with_reducible rfl)
        (try simp only [Act.put, List.setIfInBounds_toArray, List.set_cons_zero, List.set_cons_succ])
        refine wpAnyH_takeD 11 59 (v := ?_) (by kernel_rfl) (by kernel_rfl) (by kernel_rfl) (by kernel_rfl) (by rfl) (fun _ _ _ h => h) ?_ hHeld ?_
        rotate_left 1
        (intro o ho W hSw; simp only [List.getElem?_toArray, List.getElem?_cons_succ, List.getElem?_cons_zero, Option.some.injEq] at ho; subst ho; (try dsimp only at hSw); go_simp; try with_reducible rfl)
        (try simp only [Act.put, List.setIfInBounds_toArray, List.set_cons_zero, List.set_cons_succ])
        refine wpAnyH_takeD 12 60 (v := ?_) (by kernel_rfl) (by kernel_rfl) (by kernel_rfl) (by kernel_rfl) (by rfl) (fun _ _ _ h => h) ?_ hHeld ?_
        rotate_left 1
        (intro o ho W hSw; simp only [List.getElem?_toArray, List.getElem?_cons_succ, List.getElem?_cons_zero, Option.some.injEq] at ho; subst ho; (try dsimp only at hSw); go_simp; try with_reducible rfl)
        (try simp only [Act.put, List.setIfInBounds_toArray, List.set_cons_zero, List.set_cons_succ])
        refine wpAnyH_takeD 13 61 (v := ?_) (by kernel_rfl) (by kernel_rfl) (by kernel_rfl) (by kernel_rfl) (by rfl) (fun _ _ _ h => h) ?_ hHeld ?_
        rotate_left 1
        (intro o ho W hSw; simp only [List.getElem?_toArray, List.getElem?_cons_succ, List.getElem?_cons_zero, Option.some.injEq] at ho; subst ho; (try dsimp only at hSw); go_simp; try with_reducible rfl)
        (try simp only [Act.put, List.setIfInBounds_toArray, List.set_cons_zero, List.set_cons_succ])
        refine wpAnyH_takeD 14 62 (v := ?_) (by kernel_rfl) (by kernel_rfl) (by kernel_rfl) (by kernel_rfl) (by rfl) (fun _ _ _ h => h) ?_ hHeld ?_
        rotate_left 1
        (intro o ho W hSw; simp only [List.getElem?_toArray, List.getElem?_cons_succ, List.getElem?_cons_zero, Option.some.injEq] at ho; subst ho; (try dsimp only at hSw); go_simp; try with_reducible rfl)
        (try simp only [Act.put, List.setIfInBounds_toArray, List.set_cons_zero, List.set_cons_succ])
        refine wpAnyH_takeD 15 63 (v := ?_) (by kernel_rfl) (by kernel_rfl) (by kernel_rfl) (by kernel_rfl) (by rfl) (fun _ _ _ h => h) ?_ hHeld ?_
        rotate_left 1
        (intro o ho W hSw; simp only [List.getElem?_toArray, List.getElem?_cons_succ, List.getElem?_cons_zero, Option.some.injEq] at ho; subst ho; (try dsimp only at hSw); go_simp; try with_reducible rfl)
        (try simp only [Act.put, List.setIfInBounds_toArray, List.set_cons_zero, List.set_cons_succ])
        refine wpAnyH_onlyD 10 (by kernel_rfl) (fun o ho K hK => ?_) (by kernel_rfl)
        simp only [List.getElem?_toArray, List.getElem?_cons_succ, List.getElem?_cons_zero, Option.some.injEq] at ho
        subst ho
        go_simp
        refine (rfSub_any x (X c) b k _ _ hx.1 hx.2 IA.out.1.1 IA.out.1.2 G0.out.m).mono ?_
        rintro e w1 ⟨rfl, h⟩
        have G1 := Lib.hid (G0.out.fx h)
        have A1 := Lib.hid (A0.out.fx h (by have := G0.out.lt; omega))
        (try have B1 := Lib.hid (B0.out.fx h (by have := G0.out.lt; omega)))
        (try have R1 := Lib.hid (R0.out.fx h (by have := G0.out.lt; omega)))
        (try have P1 := Lib.hid (P0.out.fx h))
        (try have I1 := Lib.hid (I0.out.fx h hbi))
        go_wp2_with fail
        refine hK.out _ _ (⟨A1.out.h2'', B1.out.h2''⟩) ?_
        clear hK K hHeld
        intro hHeld
        clear h G0 A0
        (try clear B0)
        (try clear R0)
        (try clear P0)
        (try clear I0)
        refine wpAnyH_onlyD 16 (by kernel_rfl) (fun o ho K hK => ?_) (by kernel_rfl)
        simp only [List.getElem?_toArray, List.getElem?_cons_succ, List.getElem?_cons_zero, Option.some.injEq] at ho
        subst ho
        go_simp
        refine (rfSub_any (X d) (X c) b k _ _ IB.out.1.1 IB.out.1.2 IA.out.1.1 IA.out.1.2 G1.out.m).mono ?_
        rintro e w2 ⟨rfl, h⟩
        have G2 := Lib.hid (G1.out.fx h)
        have A2 := Lib.hid (A1.out.fx h (by have := G1.out.lt; omega))
        (try have B2 := Lib.hid (B1.out.fx h (by have := G1.out.lt; omega)))
        (try have R2 := Lib.hid (R1.out.fx h (by have := G1.out.lt; omega)))
        (try have P2 := Lib.hid (P1.out.fx h))
        (try have I2 := Lib.hid (I1.out.fx h hbi))
        go_wp2_with fail
        refine hK.out _ _ (⟨A2.out.h2'', B2.out.h2''⟩) ?_
        clear hK K hHeld
        intro hHeld
        clear h G1 A1
        (try clear B1)
        (try clear R1)
        (try clear P1)
        (try clear I1)
        refine wpAnyH_onlyD 17 (by kernel_rfl) (fun o ho K hK => ?_) (by kernel_rfl)
        simp only [List.getElem?_toArray, List.getElem?_cons_succ, List.getElem?_cons_zero, Option.some.injEq] at ho
        subst ho
        go_simp
        refine (rfDiv_any (subF x (X c)) (subF (X d) (X c)) b k _ _ (subF_in _ _).1 (subF_in _ _).2 (subF_in _ _).1 (subF_in _ _).2 G2.out.m).mono ?_
        rintro e w3 ⟨rfl, h⟩
        have G3 := Lib.hid (G2.out.fx h)
        have A3 := Lib.hid (A2.out.fx h (by have := G2.out.lt; omega))
        (try have B3 := Lib.hid (B2.out.fx h (by have := G2.out.lt; omega)))
        (try have R3 := Lib.hid (R2.out.fx h (by have := G2.out.lt; omega)))
        (try have P3 := Lib.hid (P2.out.fx h))
        (try have I3 := Lib.hid (I2.out.fx h hbi))
        go_wp2_with fail
        refine hK.out _ _ (⟨A3.out.h2'', B3.out.h2''⟩) ?_
        clear hK K hHeld
        intro hHeld
        clear h G2 A2
        (try clear B2)
        (try clear R2)
        (try clear P2)
        (try clear I2)
        refine wpAnyH_onlyD 18 (by kernel_rfl) (fun o ho K hK => ?_) (by kernel_rfl)
        simp only [List.getElem?_toArray, List.getElem?_cons_succ, List.getElem?_cons_zero, Option.some.injEq] at ho
        subst ho
        go_simp
        refine (rfMix_any (Y c) (Y d) (divF (subF x (X c)) (subF (X d) (X c))) b k _ _ IA.out.2.1 IA.out.2.2 IB.out.2.1 IB.out.2.2 (divF_in _ _).1 (divF_in _ _).2 G3.out.m).mono ?_
        rintro e w4 ⟨rfl, h⟩
        have G4 := Lib.hid (G3.out.fx h)
        have A4 := Lib.hid (A3.out.fx h (by have := G3.out.lt; omega))
        (try have B4 := Lib.hid (B3.out.fx h (by have := G3.out.lt; omega)))
        (try have R4 := Lib.hid (R3.out.fx h (by have := G3.out.lt; omega)))
        (try have P4 := Lib.hid (P3.out.fx h))
        (try have I4 := Lib.hid (I3.out.fx h hbi))
        go_wp2_with fail
        refine hK.out _ _ (⟨A4.out.h2'', B4.out.h2''⟩) ?_
        clear hK K hHeld
        intro hHeld
        clear h G3 A3
        (try clear B3)
        (try clear R3)
        (try clear P3)
        (try clear I3)
        refine wpAnyH_takeD 19 6 (v := ?_) (by kernel_rfl) (by kernel_rfl) (by kernel_rfl) (by kernel_rfl) (by rfl) (fun _ _ _ h => h) ?_ hHeld ?_
        rotate_left 1
        (intro o ho W hSw; simp only [List.getElem?_toArray, List.getElem?_cons_succ, List.getElem?_cons_zero, Option.some.injEq] at ho; subst ho; (try dsimp only at hSw); go_simp; try with_reducible rfl)
        (try simp only [Act.put, List.setIfInBounds_toArray, List.set_cons_zero, List.set_cons_succ])
        refine wpAnyH_done (by kernel_rfl) ?_ _
        go_wp2
        go_ret
        exact ⟨rfl, by have := G4.out.f; unfold segO; simp only [← Bool.or_assoc]; exact this⟩
end Go.Proofs.Ytbggakbjppnchaa
