/- The program's field: Slopes, Height, Normal; what it tells. -/
import Derived.Test.YtinahmhiopgcnaaGreatEt
import Derived.Test.YtinahmhiopgcnaaGreatBe
import Derived.Test.YtinahmhiopgcnaaGreatBz
import Derived.Test.YtinahmhiopgcnaaGreatJf
namespace Go.Proofs.YtinahmhiopgcnaaGreat
open Go.RowKit
set_option linter.unusedVariables false
set_option linter.unusedSimpArgs false

/-- the field and a flag that is none of its cells -/
structure FG (w W : World) (lo top f hb gb hc gc b k : Nat) (o : Bool) (t : Trk) : Prop where
  p : FX lo top W f hb gb hc gc t
  f : Flag w W b k o
  e : b < lo ∨ top ≤ b
theorem FG.step {w W W' : World} {lo top f hb gb hc gc b k : Nat} {o : Bool} {t : Trk} (G : FG w W lo top f hb gb hc gc b k o t) (h : Below W.heap.size W W') : FG w W' lo top f hb gb hc gc b k o t := ⟨G.p.step h, G.f.more h, G.e⟩
theorem FG.fx {w W W' : World} {lo top f hb gb hc gc b k : Nat} {o q : Bool} {t : Trk} (G : FG w W lo top f hb gb hc gc b k o t) (h : FxW W.heap.size W b k q W') : FG w W' lo top f hb gb hc gc b k q t := ⟨G.p.fx h G.e, G.f.fx h, G.e⟩
theorem FG.new {w : World} {lo top f hb gb hc gc b k : Nat} {o : Bool} {t : Trk} (P : FX lo top w f hb gb hc gc t) (m : MAt w b k o) (e : b < lo ∨ top ≤ b) : FG w w lo top f hb gb hc gc b k o t := ⟨P, Flag.start m (Below.refl _ _), e⟩
set_option maxRecDepth 100000 in
set_option maxHeartbeats 4000000 in
theorem fSlopes_any (t : Trk) (c r : Int) (up : Bool) (b k : Nat) (o : Bool) (lo top f hb gb hc gc : Nat) (w : World) (P : FX lo top w f hb gb hc gc t) (e : b < lo ∨ top ≤ b) (m : MAt w b k o) :
    Calls Tryz.prog 42 #[.pointer (some ⟨f, 0, none⟩), .pointer (some ⟨b, k, none⟩), .int .i64 c, .int .i64 r, .bool up] w fun e w' => e = .returned (.tuple #[.int .i64 (slaF t c r up), .int .i64 (slbF t c r up)]) ∧ FxW w.heap.size w b k o w' := by
  have G0 := Lib.hid (FG.new P m e)
  have VH := Lib.hid (fun (W : World) (Q : FX lo top W f hb gb hc gc t) => fHas_any t c r lo top f hb gb hc gc W Q)
  obtain ⟨qa, ha⟩ : ∃ q, slaF t c r up = q := ⟨_, rfl⟩
  obtain ⟨qb, hbb⟩ : ∃ q, slbF t c r up = q := ⟨_, rfl⟩
  rw [ha, hbb]
  obtain ⟨hcn, hf⟩ := P.r
  clear m e P
  by_cases ok : okC t c r
  rotate_left
  · have E := Lib.hid (show 0 = qa ∧ 0 = qb from ⟨by rw [← ha]; unfold slaF; rw [if_neg ok], by rw [← hbb]; unfold slbF; rw [if_neg ok]⟩)
    rw [decide_eq_false ok] at VH
    clear ha hbb hcn hf ok
    go_enter Tryz.func42, Tryz.ntmps42
    go_wp2_with fail
    refine (VH.out _ G0.out.p).mono ?_
    rintro e w1 ⟨rfl, h⟩
    have G1 := Lib.hid (G0.out.step h)
    clear h G0 VH
    go_wp2
    go_ret2
    exact ⟨by rw [← E.out.1, ← E.out.2]; rfl, G1.out.f.f⟩
  rw [decide_eq_true ok] at VH
  have VF := Lib.hid (fun (W : World) (Q : FX lo top W f hb gb hc gc t) => fFirst_any t c r lo top f hb gb hc gc W Q ok)
  have CR := cell_right hcn hf ok
  have NA := Lib.hid (show slA t.cell (h00 t c r) (h10 t c r) (h01 t c r) (h11 t c r) up = qa by rw [← ha]; unfold slaF; rw [if_pos ok])
  have NB := Lib.hid (show slB t.cell (h00 t c r) (h10 t c r) (h01 t c r) (h11 t c r) up = qb by rw [← hbb]; unfold slbF; rw [if_pos ok])
  clear ha hbb
  obtain ⟨-, hN, hl, h4⟩ := at_is hcn ok
  obtain ⟨⟨m1, -⟩, -, -, -, -⟩ := hcn
  obtain ⟨m10, m11⟩ := m1
  unfold h00 h10 h01 h11 at *
  generalize atC t c r = N at *
  obtain ⟨n1, e1⟩ : ∃ n, N + 1 = n := ⟨_, rfl⟩
  obtain ⟨n2, e2⟩ : ∃ n, N + t.cols.toNat + 1 = n := ⟨_, rfl⟩
  obtain ⟨n3, e3⟩ : ∃ n, N + t.cols.toNat + 2 = n := ⟨_, rfl⟩
  rw [e1, e2, e3] at CR NA NB
  have x1 : (N : Int) + 1 = (n1 : Int) := by omega
  have x2 : (N : Int) + t.cols + 1 = (n2 : Int) := by omega
  have x3 : (n2 : Int) + 1 = (n3 : Int) := by omega
  have l1 : (n1 : Int) < (t.H.n : Int) := by omega
  have l2 : (n2 : Int) < (t.H.n : Int) := by omega
  have l3 : (n3 : Int) < (t.H.n : Int) := by omega
  have l0 : (N : Int) < (t.H.n : Int) := by omega
  have z0 : (0 : Int) ≤ (N : Int) := by omega
  have z1 : (0 : Int) ≤ (n1 : Int) := by omega
  have z2 : (0 : Int) ≤ (n2 : Int) := by omega
  have z3 : (0 : Int) ≤ (n3 : Int) := by omega
  clear e1 e2 e3 hl hf ok hN
  obtain ⟨k0, k1, ⟨⟨a0, a1⟩, ⟨b0, b1⟩, ⟨g0, g1⟩, ⟨f0, f1⟩⟩, X0, X1, Y0, Y1⟩ := CR
  obtain ⟨u1, v1⟩ := wrap_in' (n := t.H.v n1 - t.H.v N) (by unfold In64; omega)
  obtain ⟨u2, v2⟩ := wrap_in' (n := t.H.v n3 - t.H.v n1) (by unfold In64; omega)
  obtain ⟨u3, v3⟩ := wrap_in' (n := t.H.v n3 - t.H.v n2) (by unfold In64; omega)
  obtain ⟨u4, v4⟩ := wrap_in' (n := t.H.v n2 - t.H.v N) (by unfold In64; omega)
  cases up
  · unfold slA at NA
    unfold slB at NB
    rw [if_neg (by simp)] at NA NB
    obtain ⟨e1, -, -, -⟩ := fdiv_gen (p := t.H.v n1 - t.H.v N) (c := t.cell) (by omega) X0.1 X0.2
    obtain ⟨e2, -, -, -⟩ := fdiv_gen (p := t.H.v n3 - t.H.v n1) (c := t.cell) (by omega) Y1.1 Y1.2
    have JA := Lib.hid (fun (o : Bool) (W : World) (m : MAt W b k o) => by
      have := fxDiv_any (t.H.v n1 - t.H.v N) t.cell b k o W (by omega) (by omega) (by omega) (by omega) m
      rw [e1, Bool.or_false] at this
      exact this)
    have JB := Lib.hid (fun (o : Bool) (W : World) (m : MAt W b k o) => by
      have := fxDiv_any (t.H.v n3 - t.H.v n1) t.cell b k o W (by omega) (by omega) (by omega) (by omega) m
      rw [e2, Bool.or_false] at this
      exact this)
    have EA := Lib.hid (show divF (t.H.v n1 - t.H.v N) t.cell = qa from NA.out)
    have EB := Lib.hid (show divF (t.H.v n3 - t.H.v n1) t.cell = qb from NB.out)
    clear NA NB e1 e2
    rw [EA.out] at JA
    rw [EB.out] at JB
    clear EA EB
    go_enter Tryz.func42, Tryz.ntmps42
    go_wp2_with fail
    refine (VH.out _ G0.out.p).mono ?_
    rintro e w1 ⟨rfl, h⟩
    have G1 := Lib.hid (G0.out.step h)
    clear h G0 VH
    go_wp2_with fail
    refine (VF.out _ G1.out.p).mono ?_
    rintro e x ⟨rfl, hx⟩
    obtain rfl := hx.symm
    clear hx VF
    obtain ⟨-, c1, -, -, -, c5, -⟩ := G1.out.p.cs
    have d0 := G1.out.p.h N (by omega)
    have d1 := G1.out.p.h n1 (by omega)
    have d2 := G1.out.p.h n2 (by omega)
    have d3 := G1.out.p.h n3 (by omega)
    go_wp2
    go_quiet (fail)
    go_wp2
    refine wp_gen (S := fun W => FG w W lo top f hb gb hc gc b k o t) (G1.out.step (by first | exact below_drewN (below_drewN (Below.refl _ _) _) _ | exact below_drewN (Below.refl _ _) _)) (fun W1 hS => ?_)
    have G2 := Lib.hid (hS.step ((Below.refl _ _).drew))
    clear hS G1 c1 c5 d0 d1 d2 d3
    refine wp_region_held_drew (S := fun W => W.cell? ⟨f, 0, none⟩ = some (.int .i64 t.cell)) (by kernel_rfl) (G2.out.p.cs.1) (fun hHeld => ?_)
    generalize World.drew _ = w2 at *
    refine wpAnyH_takeD 0 97 (v := ?_) (by kernel_rfl) (by kernel_rfl) (by kernel_rfl) (by kernel_rfl) (by rfl) (fun _ _ _ h => h) ?_ hHeld ?_
    rotate_left 1
    (intro o ho W hSw; simp only [List.getElem?_toArray, List.getElem?_cons_succ, List.getElem?_cons_zero, Option.some.injEq] at ho; subst ho; (try dsimp only at hSw); go_simp; try with_reducible rfl)
    (try simp only [Act.put, List.setIfInBounds_toArray, List.set_cons_zero, List.set_cons_succ])
    refine wpAnyH_takeD 1 98 (v := ?_) (by kernel_rfl) (by kernel_rfl) (by kernel_rfl) (by kernel_rfl) (by rfl) (fun _ _ _ h => h) ?_ hHeld ?_
    rotate_left 1
    (intro o ho W hSw; simp only [List.getElem?_toArray, List.getElem?_cons_succ, List.getElem?_cons_zero, Option.some.injEq] at ho; subst ho; (try dsimp only at hSw); go_simp; try with_reducible rfl)
    (try simp only [Act.put, List.setIfInBounds_toArray, List.set_cons_zero, List.set_cons_succ])
    refine wpAnyH_takeD 2 99 (v := ?_) (by kernel_rfl) (by kernel_rfl) (by kernel_rfl) (by kernel_rfl) (by rfl) (fun _ _ _ h => h) ?_ hHeld ?_
    rotate_left 1
    (intro o ho W hSw; simp only [List.getElem?_toArray, List.getElem?_cons_succ, List.getElem?_cons_zero, Option.some.injEq] at ho; subst ho; (try dsimp only at hSw); go_simp; try with_reducible rfl)
    (try simp only [Act.put, List.setIfInBounds_toArray, List.set_cons_zero, List.set_cons_succ])
    refine wpAnyH_takeD 3 100 (v := ?_) (by kernel_rfl) (by kernel_rfl) (by kernel_rfl) (by kernel_rfl) (by rfl) (fun _ _ _ h => h) ?_ hHeld ?_
    rotate_left 1
    (intro o ho W hSw; simp only [List.getElem?_toArray, List.getElem?_cons_succ, List.getElem?_cons_zero, Option.some.injEq] at ho; subst ho; (try dsimp only at hSw); go_simp; try with_reducible rfl)
    (try simp only [Act.put, List.setIfInBounds_toArray, List.set_cons_zero, List.set_cons_succ])
    refine wpAnyH_takeD 4 101 (v := ?_) (by kernel_rfl) (by kernel_rfl) (by kernel_rfl) (by kernel_rfl) (by rfl) (fun _ _ _ h => h) ?_ hHeld ?_
    rotate_left 1
    (intro o ho W hSw; simp only [List.getElem?_toArray, List.getElem?_cons_succ, List.getElem?_cons_zero, Option.some.injEq] at ho; subst ho; (try dsimp only at hSw); go_simp; try with_reducible rfl)
    (try simp only [Act.put, List.setIfInBounds_toArray, List.set_cons_zero, List.set_cons_succ])
    refine wpAnyH_takeD 5 102 (v := ?_) (by kernel_rfl) (by kernel_rfl) (by kernel_rfl) (by kernel_rfl) (by rfl) (fun _ _ _ h => h) ?_ hHeld ?_
    rotate_left 1
    (intro o ho W hSw; simp only [List.getElem?_toArray, List.getElem?_cons_succ, List.getElem?_cons_zero, Option.some.injEq] at ho; subst ho; (try dsimp only at hSw); go_simp; try with_reducible rfl)
    (try simp only [Act.put, List.setIfInBounds_toArray, List.set_cons_zero, List.set_cons_succ])
    refine wpAnyH_takeD 7 104 (v := ?_) (by kernel_rfl) (by kernel_rfl) (by kernel_rfl) (by kernel_rfl) (by rfl) (fun _ _ _ h => h) ?_ hHeld ?_
    rotate_left 1
    (intro o ho W hSw; simp only [List.getElem?_toArray, List.getElem?_cons_succ, List.getElem?_cons_zero, Option.some.injEq] at ho; subst ho; (try dsimp only at hSw); go_simp; try with_reducible rfl)
    (try simp only [Act.put, List.setIfInBounds_toArray, List.set_cons_zero, List.set_cons_succ])
    refine wpAnyH_takeD 8 105 (v := ?_) (by kernel_rfl) (by kernel_rfl) (by kernel_rfl) (by kernel_rfl) (by rfl) (fun _ _ _ h => h) ?_ hHeld ?_
    rotate_left 1
    (intro o ho W hSw; simp only [List.getElem?_toArray, List.getElem?_cons_succ, List.getElem?_cons_zero, Option.some.injEq] at ho; subst ho; (try dsimp only at hSw); go_simp; try with_reducible rfl)
    (try simp only [Act.put, List.setIfInBounds_toArray, List.set_cons_zero, List.set_cons_succ])
    refine wpAnyH_takeD 9 106 (v := ?_) (by kernel_rfl) (by kernel_rfl) (by kernel_rfl) (by kernel_rfl) (by rfl) (fun _ _ _ h => h) ?_ hHeld ?_
    rotate_left 1
    (intro o ho W hSw; simp only [List.getElem?_toArray, List.getElem?_cons_succ, List.getElem?_cons_zero, Option.some.injEq] at ho; subst ho; (try dsimp only at hSw); go_simp; try with_reducible rfl)
    (try simp only [Act.put, List.setIfInBounds_toArray, List.set_cons_zero, List.set_cons_succ])
    refine wpAnyH_takeD 10 107 (v := ?_) (by kernel_rfl) (by kernel_rfl) (by kernel_rfl) (by kernel_rfl) (by rfl) (fun _ _ _ h => h) ?_ hHeld ?_
    rotate_left 1
    (intro o ho W hSw; simp only [List.getElem?_toArray, List.getElem?_cons_succ, List.getElem?_cons_zero, Option.some.injEq] at ho; subst ho; (try dsimp only at hSw); go_simp; try with_reducible rfl)
    (try simp only [Act.put, List.setIfInBounds_toArray, List.set_cons_zero, List.set_cons_succ])
    refine wpAnyH_takeD 11 108 (v := ?_) (by kernel_rfl) (by kernel_rfl) (by kernel_rfl) (by kernel_rfl) (by rfl) (fun _ _ _ h => h) ?_ hHeld ?_
    rotate_left 1
    (intro o ho W hSw; simp only [List.getElem?_toArray, List.getElem?_cons_succ, List.getElem?_cons_zero, Option.some.injEq] at ho; subst ho; (try dsimp only at hSw); go_simp; try with_reducible rfl)
    (try simp only [Act.put, List.setIfInBounds_toArray, List.set_cons_zero, List.set_cons_succ])
    refine wpAnyH_takeD 12 109 (v := ?_) (by kernel_rfl) (by kernel_rfl) (by kernel_rfl) (by kernel_rfl) (by rfl) (fun _ _ _ h => h) ?_ hHeld ?_
    rotate_left 1
    (intro o ho W hSw; simp only [List.getElem?_toArray, List.getElem?_cons_succ, List.getElem?_cons_zero, Option.some.injEq] at ho; subst ho; (try dsimp only at hSw); go_simp; try with_reducible rfl)
    (try simp only [Act.put, List.setIfInBounds_toArray, List.set_cons_zero, List.set_cons_succ])
    refine wpAnyH_onlyD 6 (by kernel_rfl) (fun o ho K hK => ?_) (by kernel_rfl)
    simp only [List.getElem?_toArray, List.getElem?_cons_succ, List.getElem?_cons_zero, Option.some.injEq] at ho
    subst ho
    go_simp
    refine (JA.out _ _ G2.out.f.m).mono ?_
    rintro e w3 ⟨rfl, h⟩
    have G3 := Lib.hid (G2.out.fx h)
    go_wp2_with fail
    refine hK.out _ _ (G3.out.p.cs.1) ?_
    clear hK K hHeld
    intro hHeld
    clear h G2 JA
    refine wpAnyH_onlyD 13 (by kernel_rfl) (fun o ho K hK => ?_) (by kernel_rfl)
    simp only [List.getElem?_toArray, List.getElem?_cons_succ, List.getElem?_cons_zero, Option.some.injEq] at ho
    subst ho
    go_simp
    refine (JB.out _ _ G3.out.f.m).mono ?_
    rintro e w4 ⟨rfl, h⟩
    have G4 := Lib.hid (G3.out.fx h)
    go_wp2_with fail
    refine hK.out _ _ (G4.out.p.cs.1) ?_
    clear hK K hHeld
    intro hHeld
    clear h G3 JB
    refine wpAnyH_takeD 14 10 (v := ?_) (by kernel_rfl) (by kernel_rfl) (by kernel_rfl) (by kernel_rfl) (by rfl) (fun _ _ _ h => h) ?_ hHeld ?_
    rotate_left 1
    (intro o ho W hSw; simp only [List.getElem?_toArray, List.getElem?_cons_succ, List.getElem?_cons_zero, Option.some.injEq] at ho; subst ho; (try dsimp only at hSw); go_simp; try with_reducible rfl)
    (try simp only [Act.put, List.setIfInBounds_toArray, List.set_cons_zero, List.set_cons_succ])
    refine wpAnyH_takeD 15 11 (v := ?_) (by kernel_rfl) (by kernel_rfl) (by kernel_rfl) (by kernel_rfl) (by rfl) (fun _ _ _ h => h) ?_ hHeld ?_
    rotate_left 1
    (intro o ho W hSw; simp only [List.getElem?_toArray, List.getElem?_cons_succ, List.getElem?_cons_zero, Option.some.injEq] at ho; subst ho; (try dsimp only at hSw); go_simp; try with_reducible rfl)
    (try simp only [Act.put, List.setIfInBounds_toArray, List.set_cons_zero, List.set_cons_succ])
    refine wpAnyH_done (by kernel_rfl) ?_ _
    clear hHeld
    go_wp2
    go_ret2
    exact ⟨rfl, G4.out.f.f⟩
  · unfold slA at NA
    unfold slB at NB
    rw [if_pos rfl] at NA NB
    obtain ⟨e1, -, -, -⟩ := fdiv_gen (p := t.H.v n3 - t.H.v n2) (c := t.cell) (by omega) X1.1 X1.2
    obtain ⟨e2, -, -, -⟩ := fdiv_gen (p := t.H.v n2 - t.H.v N) (c := t.cell) (by omega) Y0.1 Y0.2
    have JA := Lib.hid (fun (o : Bool) (W : World) (m : MAt W b k o) => by
      have := fxDiv_any (t.H.v n3 - t.H.v n2) t.cell b k o W (by omega) (by omega) (by omega) (by omega) m
      rw [e1, Bool.or_false] at this
      exact this)
    have JB := Lib.hid (fun (o : Bool) (W : World) (m : MAt W b k o) => by
      have := fxDiv_any (t.H.v n2 - t.H.v N) t.cell b k o W (by omega) (by omega) (by omega) (by omega) m
      rw [e2, Bool.or_false] at this
      exact this)
    have EA := Lib.hid (show divF (t.H.v n3 - t.H.v n2) t.cell = qa from NA.out)
    have EB := Lib.hid (show divF (t.H.v n2 - t.H.v N) t.cell = qb from NB.out)
    clear NA NB e1 e2
    rw [EA.out] at JA
    rw [EB.out] at JB
    clear EA EB
    go_enter Tryz.func42, Tryz.ntmps42
    go_wp2_with fail
    refine (VH.out _ G0.out.p).mono ?_
    rintro e w1 ⟨rfl, h⟩
    have G1 := Lib.hid (G0.out.step h)
    clear h G0 VH
    go_wp2_with fail
    refine (VF.out _ G1.out.p).mono ?_
    rintro e x ⟨rfl, hx⟩
    obtain rfl := hx.symm
    clear hx VF
    obtain ⟨-, c1, -, -, -, c5, -⟩ := G1.out.p.cs
    have d0 := G1.out.p.h N (by omega)
    have d1 := G1.out.p.h n1 (by omega)
    have d2 := G1.out.p.h n2 (by omega)
    have d3 := G1.out.p.h n3 (by omega)
    go_wp2
    go_quiet (fail)
    go_wp2
    go_quiet (fail)
    go_wp2
    refine wp_gen (S := fun W => FG w W lo top f hb gb hc gc b k o t) (G1.out.step (by first | exact below_drewN (below_drewN (Below.refl _ _) _) _ | exact below_drewN (Below.refl _ _) _)) (fun W1 hS => ?_)
    have G2 := Lib.hid (hS.step ((Below.refl _ _).drew))
    clear hS G1 c1 c5 d0 d1 d2 d3
    refine wp_region_held_drew (S := fun W => W.cell? ⟨f, 0, none⟩ = some (.int .i64 t.cell)) (by kernel_rfl) (G2.out.p.cs.1) (fun hHeld => ?_)
    generalize World.drew _ = w2 at *
    refine wpAnyH_takeD 0 97 (v := ?_) (by kernel_rfl) (by kernel_rfl) (by kernel_rfl) (by kernel_rfl) (by rfl) (fun _ _ _ h => h) ?_ hHeld ?_
    rotate_left 1
    (intro o ho W hSw; simp only [List.getElem?_toArray, List.getElem?_cons_succ, List.getElem?_cons_zero, Option.some.injEq] at ho; subst ho; (try dsimp only at hSw); go_simp; try with_reducible rfl)
    (try simp only [Act.put, List.setIfInBounds_toArray, List.set_cons_zero, List.set_cons_succ])
    refine wpAnyH_takeD 1 98 (v := ?_) (by kernel_rfl) (by kernel_rfl) (by kernel_rfl) (by kernel_rfl) (by rfl) (fun _ _ _ h => h) ?_ hHeld ?_
    rotate_left 1
    (intro o ho W hSw; simp only [List.getElem?_toArray, List.getElem?_cons_succ, List.getElem?_cons_zero, Option.some.injEq] at ho; subst ho; (try dsimp only at hSw); go_simp; try with_reducible rfl)
    (try simp only [Act.put, List.setIfInBounds_toArray, List.set_cons_zero, List.set_cons_succ])
    refine wpAnyH_takeD 2 99 (v := ?_) (by kernel_rfl) (by kernel_rfl) (by kernel_rfl) (by kernel_rfl) (by rfl) (fun _ _ _ h => h) ?_ hHeld ?_
    rotate_left 1
    (intro o ho W hSw; simp only [List.getElem?_toArray, List.getElem?_cons_succ, List.getElem?_cons_zero, Option.some.injEq] at ho; subst ho; (try dsimp only at hSw); go_simp; try with_reducible rfl)
    (try simp only [Act.put, List.setIfInBounds_toArray, List.set_cons_zero, List.set_cons_succ])
    refine wpAnyH_takeD 3 100 (v := ?_) (by kernel_rfl) (by kernel_rfl) (by kernel_rfl) (by kernel_rfl) (by rfl) (fun _ _ _ h => h) ?_ hHeld ?_
    rotate_left 1
    (intro o ho W hSw; simp only [List.getElem?_toArray, List.getElem?_cons_succ, List.getElem?_cons_zero, Option.some.injEq] at ho; subst ho; (try dsimp only at hSw); go_simp; try with_reducible rfl)
    (try simp only [Act.put, List.setIfInBounds_toArray, List.set_cons_zero, List.set_cons_succ])
    refine wpAnyH_takeD 4 101 (v := ?_) (by kernel_rfl) (by kernel_rfl) (by kernel_rfl) (by kernel_rfl) (by rfl) (fun _ _ _ h => h) ?_ hHeld ?_
    rotate_left 1
    (intro o ho W hSw; simp only [List.getElem?_toArray, List.getElem?_cons_succ, List.getElem?_cons_zero, Option.some.injEq] at ho; subst ho; (try dsimp only at hSw); go_simp; try with_reducible rfl)
    (try simp only [Act.put, List.setIfInBounds_toArray, List.set_cons_zero, List.set_cons_succ])
    refine wpAnyH_takeD 5 102 (v := ?_) (by kernel_rfl) (by kernel_rfl) (by kernel_rfl) (by kernel_rfl) (by rfl) (fun _ _ _ h => h) ?_ hHeld ?_
    rotate_left 1
    (intro o ho W hSw; simp only [List.getElem?_toArray, List.getElem?_cons_succ, List.getElem?_cons_zero, Option.some.injEq] at ho; subst ho; (try dsimp only at hSw); go_simp; try with_reducible rfl)
    (try simp only [Act.put, List.setIfInBounds_toArray, List.set_cons_zero, List.set_cons_succ])
    refine wpAnyH_takeD 7 104 (v := ?_) (by kernel_rfl) (by kernel_rfl) (by kernel_rfl) (by kernel_rfl) (by rfl) (fun _ _ _ h => h) ?_ hHeld ?_
    rotate_left 1
    (intro o ho W hSw; simp only [List.getElem?_toArray, List.getElem?_cons_succ, List.getElem?_cons_zero, Option.some.injEq] at ho; subst ho; (try dsimp only at hSw); go_simp; try with_reducible rfl)
    (try simp only [Act.put, List.setIfInBounds_toArray, List.set_cons_zero, List.set_cons_succ])
    refine wpAnyH_takeD 8 105 (v := ?_) (by kernel_rfl) (by kernel_rfl) (by kernel_rfl) (by kernel_rfl) (by rfl) (fun _ _ _ h => h) ?_ hHeld ?_
    rotate_left 1
    (intro o ho W hSw; simp only [List.getElem?_toArray, List.getElem?_cons_succ, List.getElem?_cons_zero, Option.some.injEq] at ho; subst ho; (try dsimp only at hSw); go_simp; try with_reducible rfl)
    (try simp only [Act.put, List.setIfInBounds_toArray, List.set_cons_zero, List.set_cons_succ])
    refine wpAnyH_takeD 9 106 (v := ?_) (by kernel_rfl) (by kernel_rfl) (by kernel_rfl) (by kernel_rfl) (by rfl) (fun _ _ _ h => h) ?_ hHeld ?_
    rotate_left 1
    (intro o ho W hSw; simp only [List.getElem?_toArray, List.getElem?_cons_succ, List.getElem?_cons_zero, Option.some.injEq] at ho; subst ho; (try dsimp only at hSw); go_simp; try with_reducible rfl)
    (try simp only [Act.put, List.setIfInBounds_toArray, List.set_cons_zero, List.set_cons_succ])
    refine wpAnyH_takeD 10 107 (v := ?_) (by kernel_rfl) (by kernel_rfl) (by kernel_rfl) (by kernel_rfl) (by rfl) (fun _ _ _ h => h) ?_ hHeld ?_
    rotate_left 1
    (intro o ho W hSw; simp only [List.getElem?_toArray, List.getElem?_cons_succ, List.getElem?_cons_zero, Option.some.injEq] at ho; subst ho; (try dsimp only at hSw); go_simp; try with_reducible rfl)
    (try simp only [Act.put, List.setIfInBounds_toArray, List.set_cons_zero, List.set_cons_succ])
    refine wpAnyH_takeD 11 108 (v := ?_) (by kernel_rfl) (by kernel_rfl) (by kernel_rfl) (by kernel_rfl) (by rfl) (fun _ _ _ h => h) ?_ hHeld ?_
    rotate_left 1
    (intro o ho W hSw; simp only [List.getElem?_toArray, List.getElem?_cons_succ, List.getElem?_cons_zero, Option.some.injEq] at ho; subst ho; (try dsimp only at hSw); go_simp; try with_reducible rfl)
    (try simp only [Act.put, List.setIfInBounds_toArray, List.set_cons_zero, List.set_cons_succ])
    refine wpAnyH_takeD 12 109 (v := ?_) (by kernel_rfl) (by kernel_rfl) (by kernel_rfl) (by kernel_rfl) (by rfl) (fun _ _ _ h => h) ?_ hHeld ?_
    rotate_left 1
    (intro o ho W hSw; simp only [List.getElem?_toArray, List.getElem?_cons_succ, List.getElem?_cons_zero, Option.some.injEq] at ho; subst ho; (try dsimp only at hSw); go_simp; try with_reducible rfl)
    (try simp only [Act.put, List.setIfInBounds_toArray, List.set_cons_zero, List.set_cons_succ])
    refine wpAnyH_onlyD 6 (by kernel_rfl) (fun o ho K hK => ?_) (by kernel_rfl)
    simp only [List.getElem?_toArray, List.getElem?_cons_succ, List.getElem?_cons_zero, Option.some.injEq] at ho
    subst ho
    go_simp
    refine (JA.out _ _ G2.out.f.m).mono ?_
    rintro e w3 ⟨rfl, h⟩
    have G3 := Lib.hid (G2.out.fx h)
    go_wp2_with fail
    refine hK.out _ _ (G3.out.p.cs.1) ?_
    clear hK K hHeld
    intro hHeld
    clear h G2 JA
    refine wpAnyH_onlyD 13 (by kernel_rfl) (fun o ho K hK => ?_) (by kernel_rfl)
    simp only [List.getElem?_toArray, List.getElem?_cons_succ, List.getElem?_cons_zero, Option.some.injEq] at ho
    subst ho
    go_simp
    refine (JB.out _ _ G3.out.f.m).mono ?_
    rintro e w4 ⟨rfl, h⟩
    have G4 := Lib.hid (G3.out.fx h)
    go_wp2_with fail
    refine hK.out _ _ (G4.out.p.cs.1) ?_
    clear hK K hHeld
    intro hHeld
    clear h G3 JB
    refine wpAnyH_takeD 14 10 (v := ?_) (by kernel_rfl) (by kernel_rfl) (by kernel_rfl) (by kernel_rfl) (by rfl) (fun _ _ _ h => h) ?_ hHeld ?_
    rotate_left 1
    (intro o ho W hSw; simp only [List.getElem?_toArray, List.getElem?_cons_succ, List.getElem?_cons_zero, Option.some.injEq] at ho; subst ho; (try dsimp only at hSw); go_simp; try with_reducible rfl)
    (try simp only [Act.put, List.setIfInBounds_toArray, List.set_cons_zero, List.set_cons_succ])
    refine wpAnyH_takeD 15 11 (v := ?_) (by kernel_rfl) (by kernel_rfl) (by kernel_rfl) (by kernel_rfl) (by rfl) (fun _ _ _ h => h) ?_ hHeld ?_
    rotate_left 1
    (intro o ho W hSw; simp only [List.getElem?_toArray, List.getElem?_cons_succ, List.getElem?_cons_zero, Option.some.injEq] at ho; subst ho; (try dsimp only at hSw); go_simp; try with_reducible rfl)
    (try simp only [Act.put, List.setIfInBounds_toArray, List.set_cons_zero, List.set_cons_succ])
    refine wpAnyH_done (by kernel_rfl) ?_ _
    clear hHeld
    go_wp2
    go_ret2
    exact ⟨rfl, G4.out.f.f⟩
set_option maxRecDepth 100000 in
set_option maxHeartbeats 3000000 in
theorem fNormal_any (t : Trk) (x y : Int) (b k : Nat) (o : Bool) (lo top f hb gb hc gc : Nat) (w : World) (P : FX lo top w f hb gb hc gc t) (e : b < lo ∨ top ≤ b) (m : MAt w b k o) :
    Calls Tryz.prog 21 #[.pointer (some ⟨f, 0, none⟩), .pointer (some ⟨b, k, none⟩), .int .i64 x, .int .i64 y] w fun e w' => e = .returned (.agg #[.int .i64 (upX (slpA t x y) (slpB t x y)), .int .i64 (upY (slpA t x y) (slpB t x y)), .int .i64 (upZ (slpA t x y) (slpB t x y))]) ∧ FxW w.heap.size w b k o w' := by
  have G0 := Lib.hid (FG.new P m e)
  obtain ⟨hcn, hf⟩ := P.r
  have SI := slp_in hcn hf x y
  have VX := Lib.hid (fun (W : World) (Q : FX lo top W f hb gb hc gc t) => fWhere_any t x y lo top f hb gb hc gc W Q)
  have VS := Lib.hid (fun (W : World) (Q : FG w W lo top f hb gb hc gc b k o t) => fSlopes_any t (whK t x) (whR t y) (decide (whX t x < whY t y)) b k o lo top f hb gb hc gc W Q.p Q.e Q.f.m)
  have ea : slaF t (whK t x) (whR t y) (decide (whX t x < whY t y)) = slpA t x y := rfl
  have eb : slbF t (whK t x) (whR t y) (decide (whX t x < whY t y)) = slpB t x y := rfl
  rw [ea, eb] at VS
  clear ea eb hcn hf P m e
  generalize slpA t x y = a1 at *
  generalize slpB t x y = a2 at *
  generalize whK t x = c at *
  generalize whR t y = r at *
  generalize whX t x = dx at *
  generalize whY t y = dy at *
  obtain ⟨⟨h1, h2⟩, h3, h4⟩ := SI
  obtain ⟨hz, l1, s1, s2, d1, d2, d3, -⟩ := up_is h1 h2 h3 h4
  have i1 : subF 0 a1 = -a1 := by have := (clip64_of (n := 0 - a1) (by unfold In64; omega)).1; unfold subF; rw [this]; omega
  have i2 : subF 0 a2 = -a2 := by have := (clip64_of (n := 0 - a2) (by unfold In64; omega)).1; unfold subF; rw [this]; omega
  obtain ⟨u1, v1⟩ := wrap_in' (n := -a1) (by unfold In64; omega)
  obtain ⟨u2, v2⟩ := wrap_in' (n := -a2) (by unfold In64; omega)
  have U := Lib.hid (fun (W : World) (m : MAt W b k o) => by
    have := VUnit_any (subF 0 a1) (subF 0 a2) 4294967296 (upN a1 a2) b k o W ⟨by omega, by omega, by omega, by omega, by omega, by omega⟩ rfl m
    rw [if_neg hz, if_neg hz, if_neg hz, if_neg hz, l1, d1, d2, d3, Bool.or_false, Bool.or_false, Bool.or_false, Bool.or_false] at this
    exact this)
  unfold upX upY upZ
  generalize divF (subF 0 a1) (upN a1 a2) = n1 at *
  generalize divF (subF 0 a2) (upN a1 a2) = n2 at *
  generalize divF 4294967296 (upN a1 a2) = n3 at *
  generalize (!decide (upN a1 a2 = 0)) = fl at *
  rw [i1, i2] at U
  clear hz l1 s1 s2 d1 d2 d3 i1 i2
  go_enter Tryz.func21, Tryz.ntmps21
  go_wp2_with fail
  refine calls_gen (S := fun W => FG w W lo top f hb gb hc gc b k o t ∧ VW W w.heap.size 0 0 0) ⟨G0.out.step ((Below.refl _ _).alloc (Nat.le_refl _) _), VW.new _ _ 0 0 0 _ rfl⟩ (fun W1 hS => ?_)
  have G1 := Lib.hid hS.1
  have R1 := Lib.hid hS.2
  clear hS G0
  refine (VX.out _ G1.out.p).mono ?_
  rintro e w2 ⟨rfl, h⟩
  have G2 := Lib.hid (G1.out.step h)
  have R2 := Lib.hid (R1.out.below h R1.out.lt)
  clear h G1 R1 VX
  go_wp2_with fail
  refine (VS.out _ G2.out).mono ?_
  rintro e w3 ⟨rfl, h⟩
  have G3 := Lib.hid (G2.out.fx h)
  have R3 := Lib.hid (R2.out.fx h (by have := G2.out.f.lt; omega))
  clear h G2 R2 VS
  go_wp2_with fail
  refine (U.out _ G3.out.f.m).mono ?_
  rintro e w4 ⟨rfl, h⟩
  have G4 := Lib.hid (G3.out.fx h)
  have R4 := Lib.hid (R3.out.fx h (by have := G3.out.f.lt; omega))
  clear h G3 R3 U u1 v1 u2 v2
  have R5 := Lib.hid (R4.out.alloc (.cells #[.int .i64 n1, .int .i64 n2, .int .i64 n3] 36))
  have B5 := (Below.refl w4.heap.size w4).alloc (Nat.le_refl _) (.cells #[.int .i64 n1, .int .i64 n2, .int .i64 n3] 36)
  have G5 := Lib.hid (G4.out.f.more B5)
  clear B5
  have r0 := R5.out.c0
  have r1 := R5.out.c1
  have r2 := R5.out.c2
  have rf := R5.out.f
  go_wp2
  exact bodyPost_ret (v := .agg #[.int .i64 n1, .int .i64 n2, .int .i64 n3]) (by simp [results, Tryz.results21, go_sem, r0, r1, r2]) rfl ⟨rfl, G5.out.put3 (by omega) _ _ _⟩
/-- the program's field in memory -/
def fieldT : FieldT where
  P := fun lo top W f t => ∃ hb gb hc gc, FX lo top W f hb gb hc gc t
  keep := fun ⟨hb, gb, hc, gc, F⟩ hs k => ⟨hb, gb, hc, gc, F.keep hs k⟩
  top := fun ⟨_, _, _, _, F⟩ => F.l.2.2
end Go.Proofs.YtinahmhiopgcnaaGreat
