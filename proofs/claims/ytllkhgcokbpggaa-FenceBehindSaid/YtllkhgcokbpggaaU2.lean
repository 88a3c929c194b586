/- The program's fence: the cell in which a piece is. -/
import Derived.Test.YtllkhgcokbpggaaU1
import Derived.Test.YtllkhgcokbpggaaBi
import Derived.Test.YtllkhgcokbpggaaBt
import Derived.Test.YtllkhgcokbpggaaBj
import Derived.Test.YtllkhgcokbpggaaSh
namespace Go.Proofs.Ytllkhgcokbpggaa
open Go.RowKit
set_option linter.unusedVariables false
set_option linter.unusedSimpArgs false

theorem lv_val (n : Int) (h : 0 ≤ n ∧ n ≤ 563499709235200) : Lib.bitLen n.toNat ≤ 50 := Lib.bitLen_le n.toNat 50 (by omega) (by omega)
/-- home's blocks: the piece, its cell, its box -/
structure HmS (w W : World) (g : Fv) : Prop where
  g : BW W w.heap.size [.int .i64 g.ax, .int .i64 g.ay, .int .i64 g.bx, .int .i64 g.by', .int .i64 g.r]
  r : BW W (w.heap.size + 1) [.int .i64 0, .int .i64 0, .int .i64 0]
  l : Below w.heap.size w W
theorem HmS.step {w W W' : World} {g : Fv} (S : HmS w W g) (h : Below W.heap.size W W') : HmS w W' g := ⟨S.g.below h S.g.lt, S.r.below h S.r.lt, S.l.trans (h.mono S.l.size)⟩
theorem bw_put3 {W : World} {n : Nat} {a b c : Value} (k : BW W n [a, b, c]) (u0 u1 u2 : Value) : BW (((W.setCell ⟨n, 0, none⟩ u0).setCell ⟨n, 1, none⟩ u1).setCell ⟨n, 2, none⟩ u2) n [u0, u1, u2] :=
  (((k.put (i := 0) u0 a rfl).put (i := 1) u1 b rfl).put (i := 2) u2 c rfl)
theorem bel_put3 {w W : World} {r : Nat} (h : Below w.heap.size w W) (e : w.heap.size ≤ r) (u v z : Value) : Below w.heap.size w (((W.setCell ⟨r, 0, none⟩ u).setCell ⟨r, 1, none⟩ v).setCell ⟨r, 2, none⟩ z) :=
  ((h.setCell (p := ⟨r, 0, none⟩) e u).setCell (p := ⟨r, 1, none⟩) e v).setCell (p := ⟨r, 2, none⟩) e z
set_option maxRecDepth 100000 in
set_option maxHeartbeats 4000000 in
theorem fHome_any (g : Fv) (hg : FvB g) (w : World) : Calls Try.prog 24 #[.agg #[.int .i64 g.ax, .int .i64 g.ay, .int .i64 g.bx, .int .i64 g.by', .int .i64 g.r]] w fun e w' => e = .returned (kV (hmG g)) ∧ Below w.heap.size w w' := by
  have S0 := Lib.hid (show HmS w ((w.alloc (.cells #[.int .i64 g.ax, .int .i64 g.ay, .int .i64 g.bx, .int .i64 g.by', .int .i64 g.r] 54)).alloc (.cells #[.int .i64 0, .int .i64 0, .int .i64 0] 60)) g from
    ⟨(BW.new w _ [.int .i64 g.ax, .int .i64 g.ay, .int .i64 g.bx, .int .i64 g.by', .int .i64 g.r] _ rfl).alloc _, BW.new _ _ [.int .i64 0, .int .i64 0, .int .i64 0] _ (by simp), by repeat (first | exact Below.refl _ _ | assumption | refine Below.setCell ?_ (by first | omega | (simp; done) | (simp; omega)) _ | refine Below.alloc ?_ (by first | omega | (simp; done) | (simp; omega)) _ | refine below_drewN ?_ _ | refine Below.drew ?_ | refine Below.trans ?_ (Below.mono (by assumption) (by first | omega | (simp; done) | (simp; omega))))⟩)
  have HR : hmG g = atK (lvG g) (clB (min g.ax g.bx)) (clB (min g.ay g.by')) := rfl
  have HL : lvG g = max 38 (Lib.bitLen (max (clB (max g.ax g.bx) - clB (min g.ax g.bx)) (clB (max g.ay g.by') - clB (min g.ay g.by'))).toNat) := rfl
  have LI : 0 ≤ max (clB (max g.ax g.bx) - clB (min g.ax g.bx)) (clB (max g.ay g.by') - clB (min g.ay g.by')) ∧ max (clB (max g.ax g.bx) - clB (min g.ax g.bx)) (clB (max g.ay g.by') - clB (min g.ay g.by')) ≤ 563499709235200 := lg_in g
  obtain ⟨b1, b2, b3, b4⟩ := hg
  have c1 := cl_in (min g.ax g.bx)
  have c2 := cl_in (min g.ay g.by')
  have c3 := cl_in (max g.ax g.bx)
  have c4 := cl_in (max g.ay g.by')
  have i1 : In64 (min g.ax g.bx) := by unfold In64; omega
  have i2 : In64 (min g.ay g.by') := by unfold In64; omega
  have i3 : In64 (max g.ax g.bx) := by unfold In64; omega
  have i4 : In64 (max g.ay g.by') := by unfold In64; omega
  have V0 := Lib.hid (fun W => fBetween_any g.ax g.ay g.bx g.by' W)
  have V1 := Lib.hid (fun W => fBounded_any (min g.ax g.bx) W i1)
  have V2 := Lib.hid (fun W => fBounded_any (min g.ay g.by') W i2)
  have V3 := Lib.hid (fun W => fBounded_any (max g.ax g.bx) W i3)
  have V4 := Lib.hid (fun W => fBounded_any (max g.ay g.by') W i4)
  rw [HR, HL]
  clear HR HL b1 b2 b3 b4 i1 i2 i3 i4
  generalize min g.ax g.bx = x0 at *
  generalize min g.ay g.by' = y0 at *
  generalize max g.ax g.bx = x1 at *
  generalize max g.ay g.by' = y1 at *
  generalize clB x0 = X0 at *
  generalize clB y0 = Y0 at *
  generalize clB x1 = X1 at *
  generalize clB y1 = Y1 at *
  obtain ⟨N, hN0⟩ : ∃ N, max (X1 - X0) (Y1 - Y0) = N := ⟨_, rfl⟩
  rw [hN0] at LI ⊢
  have hN := Lib.hid hN0
  have u5 := Lib.hid (show IntKind.u64.wrap N = N from IntWalk.u64_in _ (by omega))
  have lv := lv_val N LI
  obtain ⟨K1, hK1⟩ : ∃ K1, Lib.bitLen N.toNat = K1 := ⟨_, rfl⟩
  have V5 := Lib.hid (fun W => Try.bits_Len64 N W (by omega) (by omega))
  rw [hK1] at V5 lv ⊢
  have mx := Lib.hid (show max (38 : Int) (K1 : Int) = ((max 38 K1 : Nat) : Int) by omega)
  have V6 := Lib.hid (fun W => fAt_any (max 38 K1) X0 Y0 (by omega) ⟨by unfold In64; omega, by unfold In64; omega⟩ W)
  have KVE : kV (atK (max 38 K1) X0 Y0) = .agg #[.int .i64 ((max 38 K1 : Nat) : Int), .int .i64 (X0 / 2 ^ max 38 K1), .int .i64 (Y0 / 2 ^ max 38 K1)] := rfl
  rw [KVE] at V6 ⊢
  clear KVE hN0 hK1 lv LI
  generalize max 38 K1 = L at *
  generalize X0 / 2 ^ L = Q0 at *
  generalize Y0 / 2 ^ L = R0 at *
  go_enter Try.func24, Try.ntmps24
  go_wp2_with fail
  refine (V0.out _).mono ?_
  rintro e w2 ⟨rfl, h⟩
  have S2 := Lib.hid (S0.out.step h)
  clear h S0 V0
  go_wp2_with fail
  refine wp_gen (S := fun W => HmS w W g ∧ BW W w2.heap.size [.int .i64 x0, .int .i64 y0, .int .i64 x1, .int .i64 y1] ∧ w.heap.size + 2 ≤ w2.heap.size) ⟨S2.out.step ((Below.refl _ _).alloc (Nat.le_refl _) _), BW.new _ _ [.int .i64 x0, .int .i64 y0, .int .i64 x1, .int .i64 y1] _ rfl, by have := S2.out.r.lt; omega⟩ (fun W3 hS => ?_)
  have S3 := Lib.hid hS.1
  have B3 := Lib.hid hS.2.1
  have l3 := hS.2.2
  clear hS S2
  generalize w2.heap.size = n3 at *
  obtain ⟨e0, e1, e2, e3⟩ := B3.out.h4
  go_cut [4] (fun t W => t = .pointer (some ⟨W3.heap.size, 0, none⟩) ∧ W = W3.drew.alloc (.cells #[.int .i64 X0, .int .i64 Y0] 24))
  case first =>
    refine wp_region_held_drew (S := fun W => W.cell? ⟨n3, 0, none⟩ = some (.int .i64 x0) ∧ W.cell? ⟨n3, 1, none⟩ = some (.int .i64 y0)) (by kernel_rfl) ⟨e0, e1⟩ (fun hHeld => ?_)
    refine tkD 0 11 (v := ?_) ?_ hHeld ?_
    rotate_left 1
    (intro W hSw; (try dsimp only at hSw); go_simp; try with_reducible rfl)
    (try simp only [putA, putB, putC, putD])
    refine tkD 1 12 (v := ?_) ?_ hHeld ?_
    rotate_left 1
    (intro W hSw; (try dsimp only at hSw); go_simp; try with_reducible rfl)
    (try simp only [putA, putB, putC, putD])
    refine tkD 2 13 (v := ?_) ?_ hHeld ?_
    rotate_left 1
    (intro W hSw; (try dsimp only at hSw); go_simp; try with_reducible rfl)
    (try simp only [putA, putB, putC, putD])
    refine tkD 4 15 (v := ?_) ?_ hHeld ?_
    rotate_left 1
    (intro W hSw; (try dsimp only at hSw); go_simp; try with_reducible rfl)
    (try simp only [putA, putB, putC, putD])
    refine tkD 5 16 (v := ?_) ?_ hHeld ?_
    rotate_left 1
    (intro W hSw; (try dsimp only at hSw); go_simp; try with_reducible rfl)
    (try simp only [putA, putB, putC, putD])
    refine tkD 6 17 (v := ?_) ?_ hHeld ?_
    rotate_left 1
    (intro W hSw; (try dsimp only at hSw); go_simp; try with_reducible rfl)
    (try simp only [putA, putB, putC, putD])
    refine wpAnyH_twoD 3 9 (by kernel_rfl) (fun o ho K hK => ?_) (fun o ho K hK => ?_) (by kernel_rfl) (by kernel_rfl)
    · skip
      simp only [List.getElem?_toArray, List.getElem?_cons_succ, List.getElem?_cons_zero, Option.some.injEq] at ho
      subst ho
      go_simp
      refine (V1.out _).mono ?_
      rintro e w5 ⟨rfl, rfl⟩
      go_wp2_with fail
      refine hK.out _ _ ⟨e0, e1⟩ ?_
      clear hK K hHeld
      intro hHeld
      refine wpAnyH_twoD 7 9 (by kernel_rfl) (fun o ho K hK => ?_) (fun o ho K hK => ?_) (by kernel_rfl) (by kernel_rfl)
      · skip
        simp only [List.getElem?_toArray, List.getElem?_cons_succ, List.getElem?_cons_zero, Option.some.injEq] at ho
        subst ho
        go_simp
        refine (V2.out _).mono ?_
        rintro e w5 ⟨rfl, rfl⟩
        go_wp2_with fail
        refine hK.out _ _ ⟨e0, e1⟩ ?_
        clear hK K hHeld
        intro hHeld
        refine tkD 8 19 (v := ?_) ?_ hHeld ?_
        rotate_left 1
        (intro W hSw; (try dsimp only at hSw); go_simp; try with_reducible rfl)
        (try simp only [putA, putB, putC, putD])
        refine wpAnyH_onlyD 9 (by kernel_rfl) (fun o ho K hK => ?_) (by kernel_rfl)
        simp only [List.getElem?_toArray, List.getElem?_cons_succ, List.getElem?_cons_zero, Option.some.injEq] at ho
        subst ho
        go_simp
        refine hK.out _ _ ⟨(B3.out.drew.alloc (.cells #[.int .i64 0, .int .i64 0] 24)).c 0 _ rfl, (B3.out.drew.alloc (.cells #[.int .i64 0, .int .i64 0] 24)).c 1 _ rfl⟩ ?_
        clear hK K hHeld
        intro hHeld
        refine wpAnyH_onlyD 10 (by kernel_rfl) (fun o ho K hK => ?_) (by kernel_rfl)
        simp only [List.getElem?_toArray, List.getElem?_cons_succ, List.getElem?_cons_zero, Option.some.injEq] at ho
        subst ho
        go_simp
        refine hK.out _ _ ⟨(B3.out.drew.alloc (.cells #[.int .i64 X0, .int .i64 Y0] 24)).c 0 _ rfl, (B3.out.drew.alloc (.cells #[.int .i64 X0, .int .i64 Y0] 24)).c 1 _ rfl⟩ ?_
        clear hK K hHeld
        intro hHeld
        refine wpAnyH_done (by kernel_rfl) ?_ _
        clear hHeld
        go_wp2_with fail
        go_meet
        exact ⟨rfl, rfl⟩
      · skip
        simp only [List.getElem?_toArray, List.getElem?_cons_succ, List.getElem?_cons_zero, Option.some.injEq] at ho
        subst ho
        go_simp
        refine hK.out _ _ ⟨(B3.out.drew.alloc (.cells #[.int .i64 0, .int .i64 0] 24)).c 0 _ rfl, (B3.out.drew.alloc (.cells #[.int .i64 0, .int .i64 0] 24)).c 1 _ rfl⟩ ?_
        clear hK K hHeld
        intro hHeld
        refine wpAnyH_onlyD 7 (by kernel_rfl) (fun o ho K hK => ?_) (by kernel_rfl)
        simp only [List.getElem?_toArray, List.getElem?_cons_succ, List.getElem?_cons_zero, Option.some.injEq] at ho
        subst ho
        go_simp
        refine (V2.out _).mono ?_
        rintro e w5 ⟨rfl, rfl⟩
        go_wp2_with fail
        refine hK.out _ _ ⟨(B3.out.drew.alloc (.cells #[.int .i64 0, .int .i64 0] 24)).c 0 _ rfl, (B3.out.drew.alloc (.cells #[.int .i64 0, .int .i64 0] 24)).c 1 _ rfl⟩ ?_
        clear hK K hHeld
        intro hHeld
        refine tkD 8 19 (v := ?_) ?_ hHeld ?_
        rotate_left 1
        (intro W hSw; (try dsimp only at hSw); go_simp; try with_reducible rfl)
        (try simp only [putA, putB, putC, putD])
        refine wpAnyH_onlyD 10 (by kernel_rfl) (fun o ho K hK => ?_) (by kernel_rfl)
        simp only [List.getElem?_toArray, List.getElem?_cons_succ, List.getElem?_cons_zero, Option.some.injEq] at ho
        subst ho
        go_simp
        refine hK.out _ _ ⟨(B3.out.drew.alloc (.cells #[.int .i64 X0, .int .i64 Y0] 24)).c 0 _ rfl, (B3.out.drew.alloc (.cells #[.int .i64 X0, .int .i64 Y0] 24)).c 1 _ rfl⟩ ?_
        clear hK K hHeld
        intro hHeld
        refine wpAnyH_done (by kernel_rfl) ?_ _
        clear hHeld
        go_wp2_with fail
        go_meet
        exact ⟨rfl, rfl⟩
    · skip
      simp only [List.getElem?_toArray, List.getElem?_cons_succ, List.getElem?_cons_zero, Option.some.injEq] at ho
      subst ho
      go_simp
      refine hK.out _ _ ⟨(B3.out.drew.alloc (.cells #[.int .i64 0, .int .i64 0] 24)).c 0 _ rfl, (B3.out.drew.alloc (.cells #[.int .i64 0, .int .i64 0] 24)).c 1 _ rfl⟩ ?_
      clear hK K hHeld
      intro hHeld
      refine wpAnyH_onlyD 3 (by kernel_rfl) (fun o ho K hK => ?_) (by kernel_rfl)
      simp only [List.getElem?_toArray, List.getElem?_cons_succ, List.getElem?_cons_zero, Option.some.injEq] at ho
      subst ho
      go_simp
      refine (V1.out _).mono ?_
      rintro e w5 ⟨rfl, rfl⟩
      go_wp2_with fail
      refine hK.out _ _ ⟨(B3.out.drew.alloc (.cells #[.int .i64 0, .int .i64 0] 24)).c 0 _ rfl, (B3.out.drew.alloc (.cells #[.int .i64 0, .int .i64 0] 24)).c 1 _ rfl⟩ ?_
      clear hK K hHeld
      intro hHeld
      refine wpAnyH_onlyD 7 (by kernel_rfl) (fun o ho K hK => ?_) (by kernel_rfl)
      simp only [List.getElem?_toArray, List.getElem?_cons_succ, List.getElem?_cons_zero, Option.some.injEq] at ho
      subst ho
      go_simp
      refine (V2.out _).mono ?_
      rintro e w5 ⟨rfl, rfl⟩
      go_wp2_with fail
      refine hK.out _ _ ⟨(B3.out.drew.alloc (.cells #[.int .i64 0, .int .i64 0] 24)).c 0 _ rfl, (B3.out.drew.alloc (.cells #[.int .i64 0, .int .i64 0] 24)).c 1 _ rfl⟩ ?_
      clear hK K hHeld
      intro hHeld
      refine tkD 8 19 (v := ?_) ?_ hHeld ?_
      rotate_left 1
      (intro W hSw; (try dsimp only at hSw); go_simp; try with_reducible rfl)
      (try simp only [putA, putB, putC, putD])
      refine wpAnyH_onlyD 10 (by kernel_rfl) (fun o ho K hK => ?_) (by kernel_rfl)
      simp only [List.getElem?_toArray, List.getElem?_cons_succ, List.getElem?_cons_zero, Option.some.injEq] at ho
      subst ho
      go_simp
      refine hK.out _ _ ⟨(B3.out.drew.alloc (.cells #[.int .i64 X0, .int .i64 Y0] 24)).c 0 _ rfl, (B3.out.drew.alloc (.cells #[.int .i64 X0, .int .i64 Y0] 24)).c 1 _ rfl⟩ ?_
      clear hK K hHeld
      intro hHeld
      refine wpAnyH_done (by kernel_rfl) ?_ _
      clear hHeld
      go_wp2_with fail
      go_meet
      exact ⟨rfl, rfl⟩
  case rest =>
    obtain ⟨rfl, rfl⟩ := hcut
    clear V1 V2 e0 e1 e2 e3
    have b4 := ((Below.refl W3.heap.size W3).drew).alloc (Nat.le_refl _) (.cells #[.int .i64 X0, .int .i64 Y0] 24)
    have S4 := Lib.hid (S3.out.step b4)
    have B4 := Lib.hid (B3.out.below b4 B3.out.lt)
    have D4 := Lib.hid (BW.new W3.drew _ [.int .i64 X0, .int .i64 Y0] 24 rfl)
    have n34 : n3 < W3.heap.size := B3.out.lt
    have m34 : W3.drew.heap.size = W3.heap.size := rfl
    rw [m34] at D4
    generalize W3.heap.size = n4 at *
    generalize W3.drew.alloc (.cells #[.int .i64 X0, .int .i64 Y0] 24) = W4 at *
    clear S3 B3 b4
    have e2 := B4.out.c 2 _ rfl
    have e3 := B4.out.c 3 _ rfl
    have d0 := D4.out.c 0 _ rfl
    have d1 := D4.out.c 1 _ rfl
    go_wp2_with fail
    refine wp_region_held_drew (S := fun W => (W.cell? ⟨n3, 2, none⟩ = some (.int .i64 x1) ∧ W.cell? ⟨n3, 3, none⟩ = some (.int .i64 y1)) ∧ W.cell? ⟨n4, 0, none⟩ = some (.int .i64 X0) ∧ W.cell? ⟨n4, 1, none⟩ = some (.int .i64 Y0)) (by kernel_rfl) ⟨⟨e2, e3⟩, d0, d1⟩ (fun hHeld => ?_)
    have u1 : wrap64 (X1 - X0) = X1 - X0 := (wrap_in' (n := X1 - X0) (by unfold In64; omega)).2
    have u2 : IntKind.i64.wrap (X1 - X0) = X1 - X0 := (wrap_in' (n := X1 - X0) (by unfold In64; omega)).1
    have u3 : wrap64 (Y1 - Y0) = Y1 - Y0 := (wrap_in' (n := Y1 - Y0) (by unfold In64; omega)).2
    have u4 : IntKind.i64.wrap (Y1 - Y0) = Y1 - Y0 := (wrap_in' (n := Y1 - Y0) (by unfold In64; omega)).1
    refine tkD 0 20 (v := ?_) ?_ hHeld ?_
    rotate_left 1
    (intro W hSw; (try dsimp only at hSw); go_simp; try with_reducible rfl)
    (try simp only [putA, putB, putC, putD])
    refine tkD 1 21 (v := ?_) ?_ hHeld ?_
    rotate_left 1
    (intro W hSw; (try dsimp only at hSw); go_simp; try with_reducible rfl)
    (try simp only [putA, putB, putC, putD])
    refine tkD 2 22 (v := ?_) ?_ hHeld ?_
    rotate_left 1
    (intro W hSw; (try dsimp only at hSw); go_simp; try with_reducible rfl)
    (try simp only [putA, putB, putC, putD])
    refine tkD 4 24 (v := ?_) ?_ hHeld ?_
    rotate_left 1
    (intro W hSw; (try dsimp only at hSw); go_simp; try with_reducible rfl)
    (try simp only [putA, putB, putC, putD])
    refine tkD 5 25 (v := ?_) ?_ hHeld ?_
    rotate_left 1
    (intro W hSw; (try dsimp only at hSw); go_simp; try with_reducible rfl)
    (try simp only [putA, putB, putC, putD])
    refine tkD 7 27 (v := ?_) ?_ hHeld ?_
    rotate_left 1
    (intro W hSw; (try dsimp only at hSw); go_simp; try with_reducible rfl)
    (try simp only [putA, putB, putC, putD])
    refine tkD 8 28 (v := ?_) ?_ hHeld ?_
    rotate_left 1
    (intro W hSw; (try dsimp only at hSw); go_simp; try with_reducible rfl)
    (try simp only [putA, putB, putC, putD])
    refine tkD 9 29 (v := ?_) ?_ hHeld ?_
    rotate_left 1
    (intro W hSw; (try dsimp only at hSw); go_simp; try with_reducible rfl)
    (try simp only [putA, putB, putC, putD])
    refine tkD 11 31 (v := ?_) ?_ hHeld ?_
    rotate_left 1
    (intro W hSw; (try dsimp only at hSw); go_simp; try with_reducible rfl)
    (try simp only [putA, putB, putC, putD])
    refine tkD 12 32 (v := ?_) ?_ hHeld ?_
    rotate_left 1
    (intro W hSw; (try dsimp only at hSw); go_simp; try with_reducible rfl)
    (try simp only [putA, putB, putC, putD])
    refine onlD 3 (fun K hK => ?_)
    go_simp
    refine (V3.out _).mono ?_
    rintro e w5 ⟨rfl, rfl⟩
    go_wp2_with fail
    refine hK.out _ _ (⟨⟨e2, e3⟩, d0, d1⟩) ?_
    clear hK K hHeld
    intro hHeld
    refine tkD 6 26 (v := ?_) ?_ hHeld ?_
    rotate_left 1
    (intro W hSw; (try dsimp only at hSw); go_simp; try with_reducible rfl)
    (try simp only [putA, putB, putC, putD])
    refine onlD 10 (fun K hK => ?_)
    go_simp
    refine (V4.out _).mono ?_
    rintro e w5 ⟨rfl, rfl⟩
    go_wp2_with fail
    refine hK.out _ _ (⟨⟨e2, e3⟩, d0, d1⟩) ?_
    clear hK K hHeld
    intro hHeld
    refine tkD 13 33 (v := ?_) ?_ hHeld ?_
    rotate_left 1
    (intro W hSw; (try dsimp only at hSw); go_simp; try with_reducible rfl)
    (try simp only [putA, putB, putC, putD])
    refine tkD 14 34 (v := ?_) ?_ hHeld ?_
    rotate_left 1
    (intro W hSw; (try dsimp only at hSw); go_simp; try with_reducible rfl)
    (try simp only [putA, putB, putC, putD])
    refine tkD 15 5 (v := ?_) ?_ hHeld ?_
    rotate_left 1
    (intro W hSw; (try dsimp only at hSw); go_simp; try with_reducible rfl)
    (try simp only [putA, putB, putC, putD])
    refine wpAnyH_done (by kernel_rfl) ?_ _
    clear hHeld V3 V4 u1 u2 u3 u4
    have S5 := Lib.hid (S4.out.step (Below.refl _ _).drew)
    have D5 := Lib.hid D4.out.drew
    clear S4 D4 B4 e2 e3 d0 d1
    generalize W4.drew = W5 at *
    simp only [hN.out]
    have d0 := D5.out.c 0 _ rfl
    have d1 := D5.out.c 1 _ rfl
    have ln := D5.out.lt
    go_wp2_with fail
    refine wp_region_held_drew (S := fun W => W.cell? ⟨n4, 0, none⟩ = some (.int .i64 X0) ∧ W.cell? ⟨n4, 1, none⟩ = some (.int .i64 Y0)) (by kernel_rfl) ⟨d0, d1⟩ (fun hHeld => ?_)
    have u6 := u5.out
    refine tkD 0 35 (v := ?_) ?_ hHeld ?_
    rotate_left 1
    (intro W hSw; (try dsimp only at hSw); go_simp; try with_reducible rfl)
    (try simp only [putA, putB, putC, putD])
    refine tkD 1 36 (v := ?_) ?_ hHeld ?_
    rotate_left 1
    (intro W hSw; (try dsimp only at hSw); go_simp; try with_reducible rfl)
    (try simp only [putA, putB, putC, putD])
    refine tkD 4 39 (v := ?_) ?_ hHeld ?_
    rotate_left 1
    (intro W hSw; (try dsimp only at hSw); go_simp; try with_reducible rfl)
    (try simp only [putA, putB, putC, putD])
    clear u5 u6
    refine onlD 2 (fun K hK => ?_)
    go_simp
    refine (V5.out _).mono ?_
    rintro e w5 ⟨rfl, rfl⟩
    go_wp2_with fail
    refine hK.out _ _ (⟨d0, d1⟩) ?_
    clear hK K hHeld
    intro hHeld
    have mx2 := mx.out
    refine tkD 3 38 (v := ?_) ?_ hHeld ?_
    rotate_left 1
    (intro W hSw; (try dsimp only at hSw); go_simp; try with_reducible rfl)
    (try simp only [putA, putB, putC, putD])
    clear mx mx2
    refine onlD 5 (fun K hK => ?_)
    go_simp
    refine (V6.out _).mono ?_
    rintro e w6 ⟨rfl, h⟩
    have S6 := Lib.hid ((S5.out.step (Below.refl _ _).drew).step h)
    have D6 := Lib.hid (D5.out.drew.below h ln)
    go_wp2_with fail
    refine hK.out _ _ (⟨D6.out.c 0 _ rfl, D6.out.c 1 _ rfl⟩) ?_
    clear hK K hHeld
    intro hHeld
    clear h S5 D5 V5 V6 d0 d1 ln
    have r0 := S6.out.r.c 0 _ rfl
    have r1 := S6.out.r.c 1 _ rfl
    have r2 := S6.out.r.c 2 _ rfl
    have rf := S6.out.r.f
    have ne : w.heap.size + 1 ≠ n4 := by omega
    refine wpAnyH_onlyD 6 (by kernel_rfl) (fun o ho K hK => ?_) (by kernel_rfl)
    simp only [List.getElem?_toArray, List.getElem?_cons_succ, List.getElem?_cons_zero, Option.some.injEq] at ho
    subst ho
    go_simp
    refine hK.out _ _ (⟨(((D6.out.far ne _ _).far ne _ _).far ne _ _).c 0 _ rfl, (((D6.out.far ne _ _).far ne _ _).far ne _ _).c 1 _ rfl⟩) ?_
    clear hK K hHeld
    intro hHeld
    refine wpAnyH_done (by kernel_rfl) ?_ _
    clear hHeld
    have RP := bw_put3 S6.out.r (.int .i64 L) (.int .i64 Q0) (.int .i64 R0)
    have q0 := RP.c 0 _ rfl
    have q1 := RP.c 1 _ rfl
    have q2 := RP.c 2 _ rfl
    have LB := bel_put3 S6.out.l (r := w.heap.size + 1) (by omega) (.int .i64 L) (.int .i64 Q0) (.int .i64 R0)
    clear RP r0 r1 r2 rf S6 D6
    go_wp2
    exact bodyPost_ret (v := .agg #[.int .i64 L, .int .i64 Q0, .int .i64 R0]) (by simp [results, Try.results24, go_sem,  q0, q1, q2]) rfl ⟨rfl, LB⟩
end Go.Proofs.Ytllkhgcokbpggaa
namespace Go.Proofs.Ytllkhgcokbpggaa
open Go.RowKit
set_option linter.unusedVariables false
set_option linter.unusedSimpArgs false

/-- an element of a map taken to be written, inside a held region -/
theorem step_ent {P : Program} {w w1 : World} {ops : Array Oper} {o : Oper} {a : Act} {K : Act → World → Prop} {Q : Exit → Act → World → Prop} {E : Prop} (hgd : o.guard = none) (m x : Operand) (t : TypeId) (ho : o.op = .mapEntry t m x)
    (mv kv r : Value) (hm : a.eval m = mv) (hx : a.eval x = kv) (hrun : (Instr.mapEntry t mv kv).run P w = .ok r w1) (hK : K (a.put o.dst r) w1) : if Region.wanted o (yielded ops a.tmps) = true then Oper.wp P o a w K Q else E := by
  rw [if_pos (by simp [Region.wanted, hgd])]
  unfold Oper.wp execOp
  simp only [ho, hm, hx, hrun, Sem.run_bind, Sem.run_pure, Result.andThen_ok]
  exact hK
/-- .. and written -/
theorem step_sto {P : Program} {w w1 : World} {ops : Array Oper} {o : Oper} {a : Act} {K : Act → World → Prop} {Q : Exit → Act → World → Prop} {E : Prop} (hgd : o.guard = none) (m x y : Operand) (t : TypeId) (ho : o.op = .entryStore t m x y)
    (mv sv v : Value) (hm : a.eval m = mv) (hx : a.eval x = sv) (hy : a.eval y = v) (hrun : (Instr.entryStore t mv sv v).run P w = .ok () w1) (hK : K (a.put o.dst undef) w1) : if Region.wanted o (yielded ops a.tmps) = true then Oper.wp P o a w K Q else E := by
  rw [if_pos (by simp [Region.wanted, hgd])]
  unfold Oper.wp execOp
  simp only [ho, hm, hx, hy, hrun, Sem.run_bind, Sem.run_pure, Result.andThen_ok]
  exact hK
/-- append, inside a held region -/
theorem step_ob2 {P : Program} {w : World} {ops : Array Oper} {o : Oper} {a : Act} {K : Act → World → Prop} {Q : Exit → Act → World → Prop} {E : Prop} (hgd : o.guard = none) (s x : Operand) (t tx : TypeId)
    (ho : o.op = .call { callee := .builtin .append, args := #[s, x], argTypes := #[t, tx] })
    {base : Nat} {v : Value} {xs : List Value} (T : TypeId) (i : TypeInfo) (z : Value) (ht : P.underlying t = some (.slice T)) (hi : P.info? T = some i) (hz : i.zero = some z)
    (hzs : z.cells.size = 1) (h1 : i.size = 1) (hby : i.bytes ≤ 8) (h : OB base w v xs) (hv : a.eval s = v) (xv : Value) (m : Nat) (news : List Value) (hx : a.eval x = xv) (hs : Src P 1 tx xv m news w) (hf : xs.length + m ≤ 1000000000) (hbase : base ≤ w.heap.size)
    (hK : ∀ v' w', OB base w' v' (xs ++ news) → w.grownBy w' v.ownBlock → (v'.ownBlock = v.ownBlock ∨ v'.ownBlock = some w.heap.size) → K (a.put o.dst v') w') :
    if Region.wanted o (yielded ops a.tmps) = true then Oper.wp P o a w K Q else E := by
  rw [if_pos (by simp [Region.wanted, hgd])]
  obtain ⟨v', w', hrun, r1, r2, r3⟩ := ob_append (P := P) t tx o.type T i z ht hi hz hzs h1 hby h xv m news hs hf hbase
  unfold Oper.wp execOp
  simp only [ho, resolve, invoke, builtin, Sem.run_bind, Sem.run_pure, Result.andThen_ok, List.map_toArray, List.map_cons, List.map_nil, hv, hx, hrun]
  exact hK v' w' r1 r2 r3
theorem grown_cel (W : World) (g j : Nat) (v : Value) : W.grownBy (W.setCell ⟨g, j, none⟩ v) (some g) := grown_setCells g [v] j W
/-- a block of one element yields it -/
theorem src_bl {P : Program} {tx e' : TypeId} (hk : P.underlying tx = some (.slice e')) {w : World} {n : Nat} {u : Value} (h : BW w n [u]) (h1 : u.oneCell' = true) : Src P 1 tx (.slice (some ⟨n, 0, none⟩) 1 1) 1 [u] w :=
  Src.ofSlice _ hk ⟨n, 0, none⟩ 1 1 [u] (by simp) (fun j x hj => by
    rw [show (⟨n, 0, none⟩ : Addr).add j = ⟨n, j, none⟩ by unfold Addr.add; split <;> simp_all]
    exact h.c j x hj) (fun x hx => by simp only [List.mem_cons, List.not_mem_nil, or_false] at hx; rw [hx]; exact h1)
/-- the numbers of the first m pieces that are in cell c -/
def celI (g : Nat → Fv) (m : Nat) (c : Int × Int × Int) : List Int := selI (fun i => decide (hmG (g i) = c)) m
theorem celI_add (g : Nat → Fv) (m : Nat) : (fun d => if d = hmG (g m) then celI g m (hmG (g m)) ++ [(m : Int)] else celI g m d) = celI g (m + 1) := by
  funext d
  unfold celI
  show _ = selI _ m ++ (if decide (hmG (g m) = d) = true then [(m : Int)] else [])
  by_cases h : d = hmG (g m)
  · rw [if_pos h, if_pos (decide_eq_true h.symm), h]
  · rw [if_neg h, if_neg (by rw [decide_eq_false (fun e => h e.symm)]; decide), List.append_nil]
/-- the levels of the first m pieces -/
def lvM (g : Nat → Fv) (m : Nat) (Ls : List Int) : Prop := Ls.Nodup ∧ (∀ l, l ∈ Ls ↔ ∃ i, i < m ∧ (lvG (g i) : Int) = l) ∧ Ls.length ≤ m
theorem lvM.old {g : Nat → Fv} {m : Nat} {Ls : List Int} (h : lvM g m Ls) (k : (lvG (g m) : Int) ∈ Ls) : lvM g (m + 1) Ls :=
  ⟨h.1, fun l => ⟨fun hl => by
    obtain ⟨i, hi, e⟩ := (h.2.1 l).1 hl
    exact ⟨i, by omega, e⟩, fun ⟨i, hi, e⟩ => by
    by_cases e2 : i = m
    · subst e2; rw [← e]; exact k
    · exact (h.2.1 l).2 ⟨i, by omega, e⟩⟩, by have := h.2.2; omega⟩
theorem lvM.new {g : Nat → Fv} {m : Nat} {Ls : List Int} (h : lvM g m Ls) (k : (lvG (g m) : Int) ∉ Ls) : lvM g (m + 1) (Ls ++ [(lvG (g m) : Int)]) := by
  refine ⟨List.nodup_append.2 ⟨h.1, by simp, fun a ha b hb e => ?_⟩, fun l => ⟨fun hl => ?_, fun ⟨i, hi, e⟩ => ?_⟩, by rw [List.length_append]; have := h.2.2; simp; omega⟩
  · simp only [List.mem_cons, List.not_mem_nil, or_false] at hb
    subst hb; subst e; exact k ha
  · rcases List.mem_append.1 hl with hl | hl
    · obtain ⟨i, hi, e⟩ := (h.2.1 l).1 hl
      exact ⟨i, by omega, e⟩
    · simp only [List.mem_cons, List.not_mem_nil, or_false] at hl
      exact ⟨m, by omega, hl.symm⟩
  · by_cases e2 : i = m
    · subst e2; rw [← e]; simp
    · exact List.mem_append_left _ ((h.2.1 l).2 ⟨i, by omega, e⟩)
/-- a fence in memory: its block f, its map mb, its levels lv; M: what its cells hold -/
structure FeM (base f mb : Nat) (bv : Value) (M : (Int × Int × Int) → List Int) (Ls : List Int) (W : World) (lv : Value) (L : List MapEntry) (ck : Nat) : Prop where
  c : BW W f [bv, .map (some mb), lv]
  e : CeB base W mb M L ck
  l : OB base W lv (inVs Ls)
  ap : ∀ x ∈ L, x.val.ownBlock ≠ lv.ownBlock
  b : f < base ∧ mb < f ∧ base ≤ W.heap.size
section
variable {base f mb : Nat} {bv : Value} {M : (Int × Int × Int) → List Int} {Ls : List Int} {W W' : World} {lv : Value} {L : List MapEntry} {ck : Nat}
theorem FeM.below (F : FeM base f mb bv M Ls W lv L ck) (k : Below W.heap.size W W') : FeM base f mb bv M Ls W' lv L ck :=
  ⟨F.c.below k F.c.lt, F.e.below k, F.l.below k, F.ap, F.b.1, F.b.2.1, by have := F.b.2.2; have := k.size; omega⟩
/-- .. while an element of its map is to be written -/
structure FeE (base f mb : Nat) (bv : Value) (M : (Int × Int × Int) → List Int) (Ls : List Int) (W : World) (lv : Value) (L : List MapEntry) (ck : Nat) (q : Int × Int × Int) (v : Value) (st j : Nat) : Prop where
  c : BW W f [bv, .map (some mb), lv]
  e : CeE base W mb M L ck q v st j
  l : OB base W lv (inVs Ls)
  ap : ∀ i x, i ≠ j → L[i]? = some x → x.val.ownBlock ≠ lv.ownBlock
  av : v.ownBlock = none ∨ v.ownBlock ≠ lv.ownBlock
  b : f < base ∧ mb < f ∧ base ≤ W.heap.size
theorem FeE.below {c : Int × Int × Int} {v : Value} {st j : Nat} (F : FeE base f mb bv M Ls W lv L ck c v st j) (k : Below W.heap.size W W') : FeE base f mb bv M Ls W' lv L ck c v st j :=
  ⟨F.c.below k F.c.lt, F.e.below k, F.l.below k, F.ap, F.av, F.b.1, F.b.2.1, by have := F.b.2.2; have := k.size; omega⟩
theorem BW.grow {W W' : World} {n : Nat} {l : List Value} (k : BW W n l) {row : Option Nat} (h : W.grownBy W' row) (hn : some n ≠ row) : BW W' n l :=
  ⟨fun i v e => (h.cell_far ⟨n, i, none⟩ k.lt hn).trans (k.c i v e), fun j => (h.frozen_far ⟨n, j, none⟩ k.lt hn).trans (k.f j), Nat.lt_of_lt_of_le k.lt h.size⟩
theorem fe_entry (F : FeM base f mb bv M Ls W lv L ck) {c : Int × Int × Int} (hc : kW c) :
    ∃ (v : Value) (st : Nat) (L1 : List MapEntry) (ck1 j : Nat) (w1 : World), (Instr.mapEntry 55 (.map (some mb)) (kV c)).run Try.prog W = .ok (.tuple #[v, .int .i64 st]) w1 ∧ FeE base f mb bv M Ls w1 lv L1 ck1 c v st j ∧ W.grownBy w1 (some mb) ∧ (v.ownBlock = none ∨ ∃ x ∈ L, x.val = v) := by
  obtain ⟨v, st, L1, ck1, j, w1, h1, h2, h3, h4, h5, h6⟩ := ce_entry F.e (by have := F.b; omega) hc
  refine ⟨v, st, L1, ck1, j, w1, h1, ⟨F.c.grow h3 (fun e => by cases e; have := F.b; omega), h2, F.l.grown h3 (fun e => absurd e (ob_off F.l (by have := F.b; omega))), fun i x hi hx => F.ap x (h5 i x hi hx), ?_, F.b.1, F.b.2.1, by rw [h4]; exact F.b.2.2⟩, h3, h6⟩
  rcases h6 with h | ⟨x, hx, e⟩
  · exact Or.inl h
  · exact Or.inr (by rw [← e]; exact F.ap x hx)
theorem fe_store {W2 : World} {c : Int × Int × Int} {v v' : Value} {st j : Nat} {X : List Int} (F : FeE base f mb bv M Ls W lv L ck c v st j) (g : W.grownBy W2 v.ownBlock) (o : OB base W2 v' (inVs X)) (hX : X ≠ []) (hl : v'.ownBlock = v.ownBlock ∨ v'.ownBlock = some W.heap.size) :
    ∃ w3 L', (Instr.entryStore 55 (.map (some mb)) (.int .i64 st) v').run Try.prog W2 = .ok () w3 ∧ FeM base f mb bv (fun d => if d = c then X else M d) Ls w3 lv L' ck ∧ W2.grownBy w3 (some mb) := by
  obtain ⟨w3, L', h1, h2, h3, h4, h5⟩ := ce_store F.e (by have := F.b; omega) g o hX hl
  have l2 : OB base W2 lv (inVs Ls) := F.l.grown g (fun e => by
    rcases F.av with k | k
    · exact k
    · exact absurd e.symm k)
  refine ⟨w3, L', h1, ⟨(F.c.grow g (fun e => ob_off F.e.o F.b.1 e.symm)).grow h4 (fun e => by cases e; have := F.b; omega), h2, l2.grown h4 (fun e => absurd e (ob_off l2 (by have := F.b; omega))), fun x hx => ?_, F.b.1, F.b.2.1, by rw [h5]; have := F.b.2.2; have := g.size; omega⟩, h4⟩
  rcases h3 x hx with ⟨i, hi, hxi⟩ | e
  · exact F.ap i x hi hxi
  · rw [e]
    obtain ⟨b, hb⟩ := ob_some o (inVs_nil hX)
    rcases hl with h | h
    · rcases F.av with k | k
      · rw [h, k] at hb; cases hb
      · rw [h]; exact k
    · rw [h]
      intro e2
      have := (ob_lt F.l e2.symm).2
      omega
/-- the levels written anew -/
theorem FeM.lev (F : FeM base f mb bv M Ls W lv L ck) {W2 : World} {v' : Value} {X : List Int} (g : W.grownBy W2 lv.ownBlock) (o : OB base W2 v' (inVs X)) (hl : v'.ownBlock = lv.ownBlock ∨ v'.ownBlock = some W.heap.size) :
    FeM base f mb bv M X (W2.setCell ⟨f, 2, none⟩ v') v' L ck := by
  have c2 : BW W2 f [bv, .map (some mb), lv] := F.c.grow g (fun e => ob_off F.l F.b.1 e.symm)
  have e2 : CeB base W2 mb M L ck := F.e.grown g (fun e => ob_off F.l (by have := F.b; omega) e.symm) (fun x hx e => absurd e (F.ap x hx))
  have gc := grown_cel W2 f 2 v'
  refine ⟨c2.put (i := 2) v' lv rfl, e2.grown gc (fun e => by cases e; have := F.b; omega) (fun x hx e => by
    obtain ⟨d, _, _, _, o'⟩ := e2.e x hx
    exact absurd e (ob_off o' F.b.1)), o.grown gc (fun e => absurd e (ob_off o F.b.1)), fun x hx e => ?_, F.b.1, F.b.2.1, by rw [set_size]; have := F.b.2.2; have := g.size; omega⟩
  rcases hl with h | h
  · exact F.ap x hx (by rw [e, h])
  · obtain ⟨d, _, _, _, o'⟩ := F.e.e x hx
    rw [h] at e
    have := (ob_lt o' e).2
    omega
end
theorem fContains_any {base : Nat} {W : World} {v : Value} {Ls : List Int} (o : OB base W v (inVs Ls)) (hL : Ls.length ≤ 100000) (x : Int) : Calls Try.prog 42 #[v, .int .i64 x] W fun e w' => e = .returned (.bool (decide (x ∈ Ls))) ∧ w' = W := by
  rcases o with ⟨rfl, e⟩ | ⟨g, cap, rfl, _, _, h1, h2, h3, h4, h5⟩
  · have : Ls = [] := List.map_eq_nil_iff.1 e
    subst this
    exact (Try.slices_Contains_int_empty none 0 x W).mono fun e w' ⟨h, k⟩ => ⟨by rw [h]; rfl, k⟩
  · rw [inVs_len]
    refine (Try.slices_Contains_int g 0 Ls.length cap Ls x W (Nat.le_refl _) (by omega) (fun j hj => ?_)).mono fun e w' ⟨h, k⟩ => ⟨by rw [h, List.take_length]; simp, k⟩
    rw [Nat.zero_add]
    refine h5 j _ ?_
    unfold inVs
    rw [List.getElem?_map, List.getD_eq_getElem?_getD, List.getElem?_eq_getElem hj]
    rfl
end Go.Proofs.Ytllkhgcokbpggaa
