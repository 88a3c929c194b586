/- The program's plane: Crosses; what plane tells. -/
import Derived.Test.YtmfmdipejlnmfaaN1
import Derived.Test.YtmfmdipejlnmfaaNi
import Derived.Test.YtmfmdipejlnmfaaNl
import Derived.Test.YtmfmdipejlnmfaaZi
namespace Go.Proofs.Ytmfmdipejlnmfaa
open Go.RowKit
set_option linter.unusedVariables false
set_option linter.unusedSimpArgs false

/-- both areas lie in blocks of their own -/
def PcCut (w : World) (s t : Int) (L : List (Nat × List Value)) (u v : Value) (W : World) : Prop := ∃ n1 n2 : Nat, u = .pointer (some ⟨n1, 0, none⟩) ∧ v = .pointer (some ⟨n2, 0, none⟩) ∧ St w W ((n1, [.int .i64 (hiW s), .int .u64 (loW s)]) :: (n2, [.int .i64 (hiW t), .int .u64 (loW t)]) :: L)
theorem all_of {l : List Nat} {P : Nat → Bool} {i : Nat} (h : l.all P = true) (hi : i ∈ l) : P i = true := List.all_eq_true.mp h i hi
/-- what the region of both areas has made so far -/
def PcA (w : World) (ax ay bx by' px py qx qy : Int) (x10 x11 x24 x28 : Value) : Act := ⟨#[.agg #[.int .i64 ax, .int .i64 ay], .agg #[.int .i64 bx, .int .i64 by'], .agg #[.int .i64 px, .int .i64 py], .agg #[.int .i64 qx, .int .i64 qy], .pointer (some ⟨w.heap.size, 0, none⟩), .pointer (some ⟨w.heap.size + 1, 0, none⟩), .pointer (some ⟨w.heap.size + 1 + 1, 0, none⟩), .pointer (some ⟨w.heap.size + 1 + 1 + 1, 0, none⟩), .int .u32 0, .bool false, x10, x11, undef, undef, .agg #[.int .i64 ax, .int .i64 ay], .agg #[.int .i64 bx, .int .i64 by'], .agg #[.int .i64 px, .int .i64 py], .agg #[.int .i64 qx, .int .i64 qy], .slice (some ⟨w.heap.size + 1 + 1 + 1 + 1, 0, none⟩) 4 4, .bool true, .bool false, .agg #[.int .i64 ax, .int .i64 ay], .agg #[.int .i64 bx, .int .i64 by'], .agg #[.int .i64 px, .int .i64 py], x24, .agg #[.int .i64 ax, .int .i64 ay], .agg #[.int .i64 bx, .int .i64 by'], .agg #[.int .i64 qx, .int .i64 qy], x28, undef, undef, undef, undef, undef, undef, undef, undef, undef, undef, undef, undef, undef, undef, undef, undef, undef, undef, undef, undef, undef, undef, undef, undef, undef, undef, undef, undef, undef, undef, undef, undef, undef], []⟩
/-- of which operations have come up: c1 c2 both calls, p q both blocks, s1 s2 both stores -/
def PcI (w : World) (ax ay bx by' px py qx qy s t : Int) (n : Nat) (listed : Array Bool) (a : Act) (W : World) : Prop :=
  ∃ (c1 c2 p q s1 s2 : Bool) (x10 x11 x24 x28 : Value), n = (!c1).toNat + (!c2).toNat + (!p).toNat + (!q).toNat + (!s1).toNat + (!s2).toNat ∧ listed = #[true, true, true, c1, true, true, true, c2, p, q, s1, s2] ∧ a = PcA w ax ay bx by' px py qx qy x10 x11 x24 x28 ∧
    St w W (PbL w ax ay bx by' px py qx qy) ∧ (s1 = true → p = true) ∧ (s2 = true → q = true) ∧ (c1 = true → x24 = .agg #[.int .i64 (hiW s), .int .u64 (loW s)]) ∧ (c2 = true → x28 = .agg #[.int .i64 (hiW t), .int .u64 (loW t)]) ∧
    (p = true → ∃ m, x10 = .pointer (some ⟨m, 0, none⟩) ∧ w.heap.size + 1 + 1 + 1 < m ∧ BW W m (bif s1 then [.int .i64 (hiW s), .int .u64 (loW s)] else [.int .i64 0, .int .u64 0])) ∧
    (q = true → ∃ m, x11 = .pointer (some ⟨m, 0, none⟩) ∧ w.heap.size + 1 + 1 + 1 < m ∧ BW W m (bif s2 then [.int .i64 (hiW t), .int .u64 (loW t)] else [.int .i64 0, .int .u64 0])) ∧
    (p = true → q = true → x10 ≠ x11)
theorem pb_lt {w W : World} {ax ay bx by' px py qx qy : Int} (k : St w W (PbL w ax ay bx by' px py qx qy)) : w.heap.size + 1 + 1 + 1 < W.heap.size := (k.b (w.heap.size + 1 + 1 + 1) [.int .i64 qx, .int .i64 qy] (by unfold PbL; simp)).lt
theorem pb_far {w W : World} {ax ay bx by' px py qx qy : Int} (k : St w W (PbL w ax ay bx by' px py qx qy)) {r : Nat} (h : w.heap.size + 1 + 1 + 1 < r) (u0 u1 : Value) : St w ((W.setCell ⟨r, 0, none⟩ u0).setCell ⟨r, 1, none⟩ u1) (PbL w ax ay bx by' px py qx qy) := by
  have n : ∀ m q, (m, q) ∈ PbL w ax ay bx by' px py qx qy → r ≠ m := fun m q e => by
    unfold PbL at e; simp at e; rcases e with e | e | e | e <;> (have := e.1; omega)
  exact (k.far (by omega) n 0 u0).far (by omega) n 1 u1
theorem bw_far2 {W : World} {n r : Nat} {l : List Value} (k : BW W n l) (e : r ≠ n) (u0 u1 : Value) : BW ((W.setCell ⟨r, 0, none⟩ u0).setCell ⟨r, 1, none⟩ u1) n l := (k.far e 0 u0).far e 1 u1
theorem pc_two {w W : World} {n1 n2 : Nat} {a b c d : Value} {L : List (Nat × List Value)} (k : St w W ((n1, [a, b]) :: (n2, [c, d]) :: L)) : (W.cell? ⟨n1, 0, none⟩ = some a ∧ W.cell? ⟨n1, 1, none⟩ = some b) ∧ (W.cell? ⟨n2, 0, none⟩ = some c ∧ W.cell? ⟨n2, 1, none⟩ = some d) :=
  ⟨(k.b n1 [a, b] (by simp)).h2', (k.b n2 [c, d] (by simp)).h2'⟩
set_option maxRecDepth 100000 in
set_option maxHeartbeats 8000000 in
theorem plCrosses_any (ax ay bx by' px py qx qy : Int) (w : World) :
    Calls Try.prog 13 #[.agg #[.int .i64 ax, .int .i64 ay], .agg #[.int .i64 bx, .int .i64 by'], .agg #[.int .i64 px, .int .i64 py], .agg #[.int .i64 qx, .int .i64 qy]] w fun e w' => e = .returned (.tuple #[.int .u32 (crossN ⟨ax, ay⟩ ⟨bx, by'⟩ ⟨px, py⟩ ⟨qx, qy⟩), .bool (crossP ⟨ax, ay⟩ ⟨bx, by'⟩ ⟨px, py⟩ ⟨qx, qy⟩)]) ∧ Below w.heap.size w w' := by
  by_cases h : (Rg ax ∧ Rg ay) ∧ (Rg bx ∧ Rg by') ∧ (Rg px ∧ Rg py) ∧ (Rg qx ∧ Rg qy)
  · have hP : Pt.near ⟨ax, ay⟩ ∧ Pt.near ⟨bx, by'⟩ ∧ Pt.near ⟨px, py⟩ ∧ Pt.near ⟨qx, qy⟩ := h
    have N := Lib.hid (show nearL [⟨ax, ay⟩, ⟨bx, by'⟩, ⟨px, py⟩, ⟨qx, qy⟩] = true by rw [nearL4]; exact decide_eq_true h)
    have X1 := Lib.hid (fun (W : World) => plArea_any ax ay bx by' px py _ W h.1.1 h.1.2 h.2.1.1 h.2.1.2 h.2.2.1.1 h.2.2.1.2 rfl)
    have X2 := Lib.hid (fun (W : World) => plArea_any ax ay bx by' qx qy _ W h.1.1 h.1.2 h.2.1.1 h.2.1.2 h.2.2.2.1 h.2.2.2.2 rfl)
    have X3 := Lib.hid (fun (W : World) => plSide_any px py qx qy ax ay W)
    have X4 := Lib.hid (fun (W : World) => plSide_any px py qx qy bx by' W)
    obtain ⟨i1, i2, i3, -, i4⟩ := all_fit (area_99 hP.1 hP.2.1 hP.2.2.1).1 (area_99 hP.1 hP.2.1 hP.2.2.1).2 (area_99 hP.1 hP.2.1 hP.2.2.2).1 (area_99 hP.1 hP.2.1 hP.2.2.2).2
    have E1 := Lib.hid (cross_near hP)
    have E2 := Lib.hid (fun (k : crossP ⟨ax, ay⟩ ⟨bx, by'⟩ ⟨px, py⟩ ⟨qx, qy⟩ = true) => cross_yes k)
    have E3 := Lib.hid (fun (k : crossP ⟨ax, ay⟩ ⟨bx, by'⟩ ⟨px, py⟩ ⟨qx, qy⟩ = false) => cross_no k)
    generalize crossN ⟨ax, ay⟩ ⟨bx, by'⟩ ⟨px, py⟩ ⟨qx, qy⟩ = r1 at *
    generalize crossP ⟨ax, ay⟩ ⟨bx, by'⟩ ⟨px, py⟩ ⟨qx, qy⟩ = r2 at *
    generalize sideP ⟨px, py⟩ ⟨qx, qy⟩ ⟨ax, ay⟩ = e' at *
    generalize sideP ⟨px, py⟩ ⟨qx, qy⟩ ⟨bx, by'⟩ = f' at *
    generalize area ⟨ax, ay⟩ ⟨bx, by'⟩ ⟨px, py⟩ = s at *
    generalize area ⟨ax, ay⟩ ⟨bx, by'⟩ ⟨qx, qy⟩ = t at *
    have Y1 := Lib.hid (fun (W : World) => Sign_n s W i1)
    have Y2 := Lib.hid (fun (W : World) => Sign_n t W i3)
    rw [cmp_sgn'] at Y1 Y2
    have Z1 := Lib.hid (fun (W : World) => plMinus_any 0 s (-s) W (by unfold In128; omega) i1 i2 (by omega) i2)
    rw [show hiW 0 = 0 from rfl, show loW 0 = 0 from rfl] at Z1
    have Z2 := Lib.hid (fun (W : World) => plMinus_any t s (t - s) W i3 i1 i2 rfl i4)
    have Z3 := Lib.hid (fun (W : World) => Part_any _ _ _ _ (-s) (t - s) W (isW_of i2) (isW_of i4))
    generalize sgnA s = u at *
    generalize sgnA t = v at *
    have R := Lib.hid (show r2 = decide (u ≤ 0 ∧ 0 < v ∧ 0 ≤ e' ∧ f' < 0) by rw [E1.out, decide_eq_decide]; omega)
    have RN := Lib.hid (fun (k : ¬ (u ≤ 0 ∧ 0 < v ∧ 0 ≤ e' ∧ f' < 0)) => And.intro (E3.out (R.out.trans (decide_eq_false k))) (R.out.trans (decide_eq_false k)))
    have RY := Lib.hid (fun (k : u ≤ 0 ∧ 0 < v ∧ 0 ≤ e' ∧ f' < 0) => And.intro (E2.out (R.out.trans (decide_eq_true k))) (R.out.trans (decide_eq_true k)))
    clear E1 E2 E3 R i1 i2 i3 i4
    go_enter Try.func13, Try.ntmps13
    go_wp2_with fail
    refine calls_gen (S := fun W => St w W (PbL w ax ay bx by' px py qx qy) ∧ PW W (w.heap.size + 1 + 1 + 1 + 1) [⟨ax, ay⟩, ⟨bx, by'⟩, ⟨px, py⟩, ⟨qx, qy⟩])
      ⟨pb_new (((((BW.new w w.heap.size [_, _] _ rfl).alloc _).alloc _).alloc _).alloc _) ((((BW.new _ _ [_, _] _ (by simp)).alloc _).alloc _).alloc _) (((BW.new _ _ [_, _] _ (by simp)).alloc _).alloc _) ((BW.new _ _ [_, _] _ (by simp)).alloc _) (by repeat (first | exact Below.refl _ _ | assumption | refine Below.setCell ?_ (by first | omega | (simp; done) | (simp; omega)) _ | refine Below.alloc ?_ (by first | omega | (simp; done) | (simp; omega)) _ | refine below_drewN ?_ _ | refine Below.drew ?_ | refine Below.trans ?_ (Below.mono (by assumption) (by first | omega | (simp; done) | (simp; omega))))), PW.four (BW.new _ _ [_, _, _, _, _, _, _, _] _ (by simp))⟩ (fun W0 hS => ?_)
    have K0 := Lib.hid hS.1
    refine (plWithin_any _ 4 _ _ rfl (by omega) hS.2).mono ?_
    clear hS
    rintro e w1 ⟨rfl, h⟩
    have K1 := Lib.hid (K0.out.step h)
    clear h K0
    rw [N.out]
    go_wp2_with fail
    have K0 := Lib.hid K1.out.drew
    clear K1
    go_cut [10, 11] (fun u v W => PcCut w s t (PbL w ax ay bx by' px py qx qy) u v W)
    case first =>
      refine wp_region_held_drew (S := PbS w ax ay bx by' px py qx qy) (by kernel_rfl) (pb_sv K0.out) (fun hHeld => ?_)
      generalize w1.drew = w0 at *
      unfold PbS at *
      refine wpAnyH_takeD 0 21 (v := ?_) (by kernel_rfl) (by kernel_rfl) (by kernel_rfl) (by kernel_rfl) (by rfl) (fun _ _ _ h => h) ?_ hHeld ?_
      rotate_left 1
      (intro o ho W hSw; simp only [List.getElem?_toArray, List.getElem?_cons_succ, List.getElem?_cons_zero, Option.some.injEq] at ho; subst ho; (try dsimp only at hSw); go_simp; try with_reducible rfl)
      (try simp only [Act.put, List.setIfInBounds_toArray, List.set_cons_zero, List.set_cons_succ])
      refine wpAnyH_takeD 1 22 (v := ?_) (by kernel_rfl) (by kernel_rfl) (by kernel_rfl) (by kernel_rfl) (by rfl) (fun _ _ _ h => h) ?_ hHeld ?_
      rotate_left 1
      (intro o ho W hSw; simp only [List.getElem?_toArray, List.getElem?_cons_succ, List.getElem?_cons_zero, Option.some.injEq] at ho; subst ho; (try dsimp only at hSw); go_simp; try with_reducible rfl)
      (try simp only [Act.put, List.setIfInBounds_toArray, List.set_cons_zero, List.set_cons_succ])
      refine wpAnyH_takeD 2 23 (v := ?_) (by kernel_rfl) (by kernel_rfl) (by kernel_rfl) (by kernel_rfl) (by rfl) (fun _ _ _ h => h) ?_ hHeld ?_
      rotate_left 1
      (intro o ho W hSw; simp only [List.getElem?_toArray, List.getElem?_cons_succ, List.getElem?_cons_zero, Option.some.injEq] at ho; subst ho; (try dsimp only at hSw); go_simp; try with_reducible rfl)
      (try simp only [Act.put, List.setIfInBounds_toArray, List.set_cons_zero, List.set_cons_succ])
      refine wpAnyH_takeD 4 25 (v := ?_) (by kernel_rfl) (by kernel_rfl) (by kernel_rfl) (by kernel_rfl) (by rfl) (fun _ _ _ h => h) ?_ hHeld ?_
      rotate_left 1
      (intro o ho W hSw; simp only [List.getElem?_toArray, List.getElem?_cons_succ, List.getElem?_cons_zero, Option.some.injEq] at ho; subst ho; (try dsimp only at hSw); go_simp; try with_reducible rfl)
      (try simp only [Act.put, List.setIfInBounds_toArray, List.set_cons_zero, List.set_cons_succ])
      refine wpAnyH_takeD 5 26 (v := ?_) (by kernel_rfl) (by kernel_rfl) (by kernel_rfl) (by kernel_rfl) (by rfl) (fun _ _ _ h => h) ?_ hHeld ?_
      rotate_left 1
      (intro o ho W hSw; simp only [List.getElem?_toArray, List.getElem?_cons_succ, List.getElem?_cons_zero, Option.some.injEq] at ho; subst ho; (try dsimp only at hSw); go_simp; try with_reducible rfl)
      (try simp only [Act.put, List.setIfInBounds_toArray, List.set_cons_zero, List.set_cons_succ])
      refine wpAnyH_takeD 6 27 (v := ?_) (by kernel_rfl) (by kernel_rfl) (by kernel_rfl) (by kernel_rfl) (by rfl) (fun _ _ _ h => h) ?_ hHeld ?_
      rotate_left 1
      (intro o ho W hSw; simp only [List.getElem?_toArray, List.getElem?_cons_succ, List.getElem?_cons_zero, Option.some.injEq] at ho; subst ho; (try dsimp only at hSw); go_simp; try with_reducible rfl)
      (try simp only [Act.put, List.setIfInBounds_toArray, List.set_cons_zero, List.set_cons_succ])
      clear N X3 X4 Y1 Y2 Z1 Z2 Z3 RN RY h hP
      refine wpAnyH_inv (PcI w ax ay bx by' px py qx qy s t) (fun n listed a W hI hr => ?_) (fun listed a W hI => ?_) (fun n listed a W hI i hi => ?_) _ _ _ _ ⟨false, false, false, false, false, false, undef, undef, undef, undef, rfl, rfl, rfl, K0.out, fun h => absurd h (by simp), fun h => absurd h (by simp), fun h => absurd h (by simp), fun h => absurd h (by simp), fun h => absurd h (by simp), fun h => absurd h (by simp), fun h => absurd h (by simp)⟩
      · obtain ⟨c1, c2, p, q, s1, s2, x10, x11, x24, x28, hn, rfl, rfl, hK, g1, g2, h1, h2, h3, h4, h5⟩ := hI
        have ha : c1 = true ∧ c2 = true ∧ p = true ∧ q = true ∧ s1 = true ∧ s2 = true := by
          clear hn hK g1 g2 h1 h2 h3 h4 h5
          revert s2 s1 q p c2 c1
          decide +kernel
        obtain ⟨rfl, rfl, rfl, rfl, rfl, rfl⟩ := ha
        obtain ⟨n1, rfl, l1, V1⟩ := h3 rfl
        obtain ⟨n2, rfl, l2, V2⟩ := h4 rfl
        obtain rfl := h1 rfl
        obtain rfl := h2 rfl
        clear hr hn g1 g2 h1 h2 h3 h4 h5 hHeld X1 X2
        unfold PcA
        go_wp2_with fail
        go_meet
        exact ⟨n1, n2, rfl, rfl, St.cons V1 (St.cons V2 hK)⟩
      · obtain ⟨c1, c2, p, q, s1, s2, x10, x11, x24, x28, hn, rfl, rfl, hK, g1, g2, h1, h2, h3, h4, h5⟩ := hI
        clear hK g1 g2 h1 h2 h3 h4 h5
        revert hn
        revert s2 s1 q p c2 c1
        decide +kernel
      · obtain ⟨c1, c2, p, q, s1, s2, x10, x11, x24, x28, hn, rfl, rfl, hK, g1, g2, h1, h2, h3, h4, h5⟩ := hI
        have ha := of_decide_eq_true (all_of (P := fun i => decide ((i = 3 ∧ c1 = false) ∨ (i = 7 ∧ c2 = false) ∨ (i = 8 ∧ p = false) ∨ (i = 9 ∧ q = false) ∨ (i = 10 ∧ c1 = true ∧ c2 = true ∧ p = true ∧ q = true ∧ s1 = false) ∨ (i = 11 ∧ c1 = true ∧ c2 = true ∧ p = true ∧ q = true ∧ s2 = false))) (by
          clear hi hn hK g1 g2 h1 h2 h3 h4 h5
          revert s2 s1 q p c2 c1
          decide +kernel) hi)
        have K0 := Lib.hid hK
        have G1 := Lib.hid g1
        have G2 := Lib.hid g2
        have H1 := Lib.hid h1
        have H2 := Lib.hid h2
        have H3 := Lib.hid h3
        have H4 := Lib.hid h4
        have H5 := Lib.hid h5
        clear hHeld hi hK g1 g2 h1 h2 h3 h4 h5
        rcases ha with ⟨rfl, rfl⟩ | ⟨rfl, rfl⟩ | ⟨rfl, rfl⟩ | ⟨rfl, rfl⟩ | ⟨rfl, rfl, rfl, rfl, rfl, rfl⟩ | ⟨rfl, rfl, rfl, rfl, rfl, rfl⟩
        · skip
          refine ⟨by kernel_rfl, fun o ho K' hK => ?_⟩
          simp only [List.getElem?_toArray, List.getElem?_cons_succ, List.getElem?_cons_zero, Option.some.injEq] at ho
          subst ho
          unfold PcA
          go_simp
          refine (X1.out _).mono ?_
          rintro e w1 ⟨rfl, h⟩
          go_wp2_with fail
          exact hK.out _ _ (pb_sv (K0.out.step h)) ⟨true, c2, p, q, s1, s2, x10, x11, _, x28, (by simp only [Bool.not_false, Bool.not_true, Bool.toNat_true, Bool.toNat_false] at hn ⊢; omega), rfl, rfl, K0.out.step h, G1.out, G2.out, fun _ => rfl, H2.out, fun k => by obtain ⟨m, e, l, v⟩ := H3.out k; exact ⟨m, e, l, v.below h v.lt⟩, fun k => by obtain ⟨m, e, l, v⟩ := H4.out k; exact ⟨m, e, l, v.below h v.lt⟩, H5.out⟩
        · skip
          refine ⟨by kernel_rfl, fun o ho K' hK => ?_⟩
          simp only [List.getElem?_toArray, List.getElem?_cons_succ, List.getElem?_cons_zero, Option.some.injEq] at ho
          subst ho
          unfold PcA
          go_simp
          refine (X2.out _).mono ?_
          rintro e w1 ⟨rfl, h⟩
          go_wp2_with fail
          exact hK.out _ _ (pb_sv (K0.out.step h)) ⟨c1, true, p, q, s1, s2, x10, x11, x24, _, (by simp only [Bool.not_false, Bool.not_true, Bool.toNat_true, Bool.toNat_false] at hn ⊢; omega), rfl, rfl, K0.out.step h, G1.out, G2.out, H1.out, fun _ => rfl, fun k => by obtain ⟨m, e, l, v⟩ := H3.out k; exact ⟨m, e, l, v.below h v.lt⟩, fun k => by obtain ⟨m, e, l, v⟩ := H4.out k; exact ⟨m, e, l, v.below h v.lt⟩, H5.out⟩
        · have hs : s1 = false := by cases s1 with | false => rfl | true => exact absurd (G1.out rfl) (by simp)
          subst hs
          refine ⟨by kernel_rfl, fun o ho K' hK => ?_⟩
          simp only [List.getElem?_toArray, List.getElem?_cons_succ, List.getElem?_cons_zero, Option.some.injEq] at ho
          subst ho
          unfold PcA
          go_simp
          exact hK.out _ _ (pb_sv (K0.out.alloc _)) ⟨c1, c2, true, q, false, s2, _, x11, x24, x28, (by simp only [Bool.not_false, Bool.not_true, Bool.toNat_true, Bool.toNat_false] at hn ⊢; omega), rfl, rfl, K0.out.alloc _, fun _ => rfl, G2.out, H1.out, H2.out, fun _ => ⟨_, rfl, pb_lt K0.out, BW.new _ _ [_, _] _ rfl⟩, fun k => by obtain ⟨m, e, l, v⟩ := H4.out k; exact ⟨m, e, l, v.alloc _⟩, fun _ k e => by obtain ⟨m, e2, l, v⟩ := H4.out k; rw [e2] at e; injection e with e; injection e with e; injection e with e; have := v.lt; omega⟩
        · have hs : s2 = false := by cases s2 with | false => rfl | true => exact absurd (G2.out rfl) (by simp)
          subst hs
          refine ⟨by kernel_rfl, fun o ho K' hK => ?_⟩
          simp only [List.getElem?_toArray, List.getElem?_cons_succ, List.getElem?_cons_zero, Option.some.injEq] at ho
          subst ho
          unfold PcA
          go_simp
          exact hK.out _ _ (pb_sv (K0.out.alloc _)) ⟨c1, c2, p, true, s1, false, x10, _, x24, x28, (by simp only [Bool.not_false, Bool.not_true, Bool.toNat_true, Bool.toNat_false] at hn ⊢; omega), rfl, rfl, K0.out.alloc _, G1.out, fun _ => rfl, H1.out, H2.out, fun k => by obtain ⟨m, e, l, v⟩ := H3.out k; exact ⟨m, e, l, v.alloc _⟩, fun _ => ⟨_, rfl, pb_lt K0.out, BW.new _ _ [_, _] _ rfl⟩, fun k _ e => by obtain ⟨m, e2, l, v⟩ := H3.out k; rw [e2] at e; injection e with e; injection e with e; injection e with e; have := v.lt; omega⟩
        · obtain ⟨n1, rfl, l1, v1⟩ := H3.out rfl
          obtain ⟨n2, rfl, l2, v2⟩ := H4.out rfl
          obtain rfl := H1.out rfl
          have V1 := Lib.hid v1
          have V2 := Lib.hid v2
          have hne : n1 ≠ n2 := fun e => H5.out rfl rfl (by rw [e])
          have c0 := v1.c 0 _ rfl
          have c1 := v1.c 1 _ rfl
          have cf := v1.f
          clear v1 v2
          refine ⟨by kernel_rfl, fun o ho K' hK => ?_⟩
          simp only [List.getElem?_toArray, List.getElem?_cons_succ, List.getElem?_cons_zero, Option.some.injEq] at ho
          subst ho
          unfold PcA
          go_simp
          exact hK.out _ _ (pb_sv (pb_far K0.out l1 _ _)) ⟨true, true, true, true, true, s2, _, _, _, x28, (by simp only [Bool.not_false, Bool.not_true, Bool.toNat_true, Bool.toNat_false] at hn ⊢; omega), rfl, rfl, pb_far K0.out l1 _ _, fun _ => rfl, fun _ => rfl, fun _ => rfl, H2.out, fun _ => ⟨n1, rfl, l1, bw_put2 V1.out _ _⟩, fun _ => ⟨n2, rfl, l2, bw_far2 V2.out hne _ _⟩, H5.out⟩
        · obtain ⟨n1, rfl, l1, v1⟩ := H3.out rfl
          obtain ⟨n2, rfl, l2, v2⟩ := H4.out rfl
          obtain rfl := H2.out rfl
          have V1 := Lib.hid v1
          have V2 := Lib.hid v2
          have hne : n2 ≠ n1 := fun e => H5.out rfl rfl (by rw [e])
          have c0 := v2.c 0 _ rfl
          have c1 := v2.c 1 _ rfl
          have cf := v2.f
          clear v1 v2
          refine ⟨by kernel_rfl, fun o ho K' hK => ?_⟩
          simp only [List.getElem?_toArray, List.getElem?_cons_succ, List.getElem?_cons_zero, Option.some.injEq] at ho
          subst ho
          unfold PcA
          go_simp
          exact hK.out _ _ (pb_sv (pb_far K0.out l2 _ _)) ⟨true, true, true, true, s1, true, _, _, x24, _, (by simp only [Bool.not_false, Bool.not_true, Bool.toNat_true, Bool.toNat_false] at hn ⊢; omega), rfl, rfl, pb_far K0.out l2 _ _, fun _ => rfl, fun _ => rfl, H1.out, fun _ => rfl, fun _ => ⟨n1, rfl, l1, bw_far2 V1.out hne _ _⟩, fun _ => ⟨n2, rfl, l2, bw_put2 V2.out _ _⟩, H5.out⟩
    case rest =>
      obtain ⟨n1, n2, rfl, rfl, hS⟩ := hcut
      have K1 := Lib.hid hS
      clear hS K0 X1 X2 N h hP
      obtain ⟨s0, s1⟩ := (K1.out.b n1 [.int .i64 (hiW s), .int .u64 (loW s)] (by simp)).h2'
      go_wp2_with fail
      refine (Y1.out _).mono ?_
      rintro e w2 ⟨rfl, h⟩
      have K2 := Lib.hid (K1.out.step h)
      clear h K1 Y1 s0 s1
      by_cases hu : u ≤ 0
      · obtain ⟨t0, t1⟩ := (K2.out.b n2 [.int .i64 (hiW t), .int .u64 (loW t)] (by simp)).h2'
        go_wp2_with fail
        refine (Y2.out _).mono ?_
        rintro e w3 ⟨rfl, h⟩
        have K3 := Lib.hid (K2.out.step h)
        clear h K2 Y2 t0 t1
        by_cases hv : 0 < v
        · skip
          obtain ⟨⟨a0, a1⟩, ⟨b0, b1⟩, ⟨p0, p1⟩, ⟨q0, q1⟩⟩ := pb_sv K3.out.tail.tail
          go_wp2_with fail
          refine (X3.out _).mono ?_
          rintro e w4 ⟨rfl, h⟩
          have K4 := Lib.hid (K3.out.step h)
          clear h K3 X3 a0 a1 b0 b1 p0 p1 q0 q1
          rcases Classical.em (0 ≤ e') with he | he
          obtain ⟨⟨a0, a1⟩, ⟨b0, b1⟩, ⟨p0, p1⟩, ⟨q0, q1⟩⟩ := pb_sv K4.out.tail.tail
          go_wp2_with fail
          refine (X4.out _).mono ?_
          rintro e w5 ⟨rfl, h⟩
          have K5 := Lib.hid (K4.out.step h)
          clear h K4 X4 a0 a1 b0 b1 p0 p1 q0 q1
          rcases Classical.em (f' < 0) with hf | hf
          · have Z := Lib.hid (RY.out ⟨hu, hv, he, hf⟩)
            clear RN RY
            go_wp2_with fail
            have K0 := Lib.hid K5.out.drew
            clear K5
            refine wp_region_held_drew (S := fun W => (W.cell? ⟨n1, 0, none⟩ = some (.int .i64 (hiW s)) ∧ W.cell? ⟨n1, 1, none⟩ = some (.int .u64 (loW s))) ∧ (W.cell? ⟨n2, 0, none⟩ = some (.int .i64 (hiW t)) ∧ W.cell? ⟨n2, 1, none⟩ = some (.int .u64 (loW t)))) (by kernel_rfl) (pc_two K0.out) (fun hHeld => ?_)
            generalize w5.drew = w0 at *
            refine wpAnyH_takeD 0 55 (v := ?_) (by kernel_rfl) (by kernel_rfl) (by kernel_rfl) (by kernel_rfl) (by rfl) (fun _ _ _ h => h) ?_ hHeld ?_
            rotate_left 1
            (intro o ho W hSw; simp only [List.getElem?_toArray, List.getElem?_cons_succ, List.getElem?_cons_zero, Option.some.injEq] at ho; subst ho; (try dsimp only at hSw); go_simp; try with_reducible rfl)
            (try simp only [Act.put, List.setIfInBounds_toArray, List.set_cons_zero, List.set_cons_succ])
            refine wpAnyH_takeD 1 56 (v := ?_) (by kernel_rfl) (by kernel_rfl) (by kernel_rfl) (by kernel_rfl) (by rfl) (fun _ _ _ h => h) ?_ hHeld ?_
            rotate_left 1
            (intro o ho W hSw; simp only [List.getElem?_toArray, List.getElem?_cons_succ, List.getElem?_cons_zero, Option.some.injEq] at ho; subst ho; (try dsimp only at hSw); go_simp; try with_reducible rfl)
            (try simp only [Act.put, List.setIfInBounds_toArray, List.set_cons_zero, List.set_cons_succ])
            refine wpAnyH_takeD 3 58 (v := ?_) (by kernel_rfl) (by kernel_rfl) (by kernel_rfl) (by kernel_rfl) (by rfl) (fun _ _ _ h => h) ?_ hHeld ?_
            rotate_left 1
            (intro o ho W hSw; simp only [List.getElem?_toArray, List.getElem?_cons_succ, List.getElem?_cons_zero, Option.some.injEq] at ho; subst ho; (try dsimp only at hSw); go_simp; try with_reducible rfl)
            (try simp only [Act.put, List.setIfInBounds_toArray, List.set_cons_zero, List.set_cons_succ])
            refine wpAnyH_takeD 4 59 (v := ?_) (by kernel_rfl) (by kernel_rfl) (by kernel_rfl) (by kernel_rfl) (by rfl) (fun _ _ _ h => h) ?_ hHeld ?_
            rotate_left 1
            (intro o ho W hSw; simp only [List.getElem?_toArray, List.getElem?_cons_succ, List.getElem?_cons_zero, Option.some.injEq] at ho; subst ho; (try dsimp only at hSw); go_simp; try with_reducible rfl)
            (try simp only [Act.put, List.setIfInBounds_toArray, List.set_cons_zero, List.set_cons_succ])
            refine wpAnyH_onlyD 2 (by kernel_rfl) (fun o ho K hK => ?_) (by kernel_rfl)
            simp only [List.getElem?_toArray, List.getElem?_cons_succ, List.getElem?_cons_zero, Option.some.injEq] at ho
            subst ho
            go_simp
            refine (Z1.out _).mono ?_
            rintro e w1 ⟨rfl, h⟩
            have K1 := Lib.hid (K0.out.step h)
            go_wp2_with fail
            refine hK.out _ _ (pc_two K1.out) ?_
            clear hK K hHeld
            intro hHeld
            clear h K0
            refine wpAnyH_onlyD 5 (by kernel_rfl) (fun o ho K hK => ?_) (by kernel_rfl)
            simp only [List.getElem?_toArray, List.getElem?_cons_succ, List.getElem?_cons_zero, Option.some.injEq] at ho
            subst ho
            go_simp
            refine (Z2.out _).mono ?_
            rintro e w2 ⟨rfl, h⟩
            have K2 := Lib.hid (K1.out.step h)
            go_wp2_with fail
            refine hK.out _ _ (pc_two K2.out) ?_
            clear hK K hHeld
            intro hHeld
            clear h K1
            refine wpAnyH_onlyD 6 (by kernel_rfl) (fun o ho K hK => ?_) (by kernel_rfl)
            simp only [List.getElem?_toArray, List.getElem?_cons_succ, List.getElem?_cons_zero, Option.some.injEq] at ho
            subst ho
            go_simp
            refine (Z3.out _).mono ?_
            rintro e w3 ⟨rfl, h⟩
            have K3 := Lib.hid (K2.out.step h)
            go_wp2_with fail
            refine hK.out _ _ (pc_two K3.out) ?_
            clear hK K hHeld
            intro hHeld
            clear h K2
            refine wpAnyH_takeD 7 8 (v := ?_) (by kernel_rfl) (by kernel_rfl) (by kernel_rfl) (by kernel_rfl) (by rfl) (fun _ _ _ h => h) ?_ hHeld ?_
            rotate_left 1
            (intro o ho W hSw; simp only [List.getElem?_toArray, List.getElem?_cons_succ, List.getElem?_cons_zero, Option.some.injEq] at ho; subst ho; (try dsimp only at hSw); go_simp; try with_reducible rfl)
            (try simp only [Act.put, List.setIfInBounds_toArray, List.set_cons_zero, List.set_cons_succ])
            refine wpAnyH_takeD 8 9 (v := ?_) (by kernel_rfl) (by kernel_rfl) (by kernel_rfl) (by kernel_rfl) (by rfl) (fun _ _ _ h => h) ?_ hHeld ?_
            rotate_left 1
            (intro o ho W hSw; simp only [List.getElem?_toArray, List.getElem?_cons_succ, List.getElem?_cons_zero, Option.some.injEq] at ho; subst ho; (try dsimp only at hSw); go_simp; try with_reducible rfl)
            (try simp only [Act.put, List.setIfInBounds_toArray, List.set_cons_zero, List.set_cons_succ])
            refine wpAnyH_done (by kernel_rfl) ?_ _
            go_wp2
            go_ret2
            exact ⟨by rw [Z.out.1, Z.out.2]; rfl, K3.out.l⟩
          · have Z := Lib.hid (RN.out (fun k => by omega))
            have hd := decide_eq_false (show ¬ f' < 0 by omega)
            go_wp2
            go_ret2
            exact ⟨by rw [Z.out.1, Z.out.2]; rfl, K5.out.l⟩
          · have Z := Lib.hid (RN.out (fun k => by omega))
            go_wp2
            go_ret2
            exact ⟨by rw [Z.out.1, Z.out.2]; rfl, K4.out.l⟩
        · have Z := Lib.hid (RN.out (fun k => by omega))
          obtain ⟨⟨a0, a1⟩, ⟨b0, b1⟩, ⟨p0, p1⟩, ⟨q0, q1⟩⟩ := pb_sv K3.out.tail.tail
          go_wp2_with fail
          refine (X3.out _).mono ?_
          rintro e w4 ⟨rfl, h⟩
          have K4 := Lib.hid (K3.out.step h)
          clear h K3 X3 a0 a1 b0 b1 p0 p1 q0 q1
          rcases Classical.em (0 ≤ e') with he | he
          obtain ⟨⟨a0, a1⟩, ⟨b0, b1⟩, ⟨p0, p1⟩, ⟨q0, q1⟩⟩ := pb_sv K4.out.tail.tail
          go_wp2_with fail
          refine (X4.out _).mono ?_
          rintro e w5 ⟨rfl, h⟩
          have K5 := Lib.hid (K4.out.step h)
          clear h K4 X4 a0 a1 b0 b1 p0 p1 q0 q1
          rcases Classical.em (f' < 0) with hf | hf
          · skip
            go_wp2
            go_ret2
            exact ⟨by rw [Z.out.1, Z.out.2]; rfl, K5.out.l⟩
          · skip
            go_wp2
            go_ret2
            exact ⟨by rw [Z.out.1, Z.out.2]; rfl, K5.out.l⟩
          · skip
            go_wp2
            go_ret2
            exact ⟨by rw [Z.out.1, Z.out.2]; rfl, K4.out.l⟩
      · have Z := Lib.hid (RN.out (fun k => by omega))
        obtain ⟨⟨a0, a1⟩, ⟨b0, b1⟩, ⟨p0, p1⟩, ⟨q0, q1⟩⟩ := pb_sv K2.out.tail.tail
        go_wp2_with fail
        refine (X3.out _).mono ?_
        rintro e w4 ⟨rfl, h⟩
        have K4 := Lib.hid (K2.out.step h)
        clear h K2 X3 a0 a1 b0 b1 p0 p1 q0 q1
        rcases Classical.em (0 ≤ e') with he | he
        obtain ⟨⟨a0, a1⟩, ⟨b0, b1⟩, ⟨p0, p1⟩, ⟨q0, q1⟩⟩ := pb_sv K4.out.tail.tail
        go_wp2_with fail
        refine (X4.out _).mono ?_
        rintro e w5 ⟨rfl, h⟩
        have K5 := Lib.hid (K4.out.step h)
        clear h K4 X4 a0 a1 b0 b1 p0 p1 q0 q1
        rcases Classical.em (f' < 0) with hf | hf
        · skip
          go_wp2
          go_ret2
          exact ⟨by rw [Z.out.1, Z.out.2]; rfl, K5.out.l⟩
        · skip
          go_wp2
          go_ret2
          exact ⟨by rw [Z.out.1, Z.out.2]; rfl, K5.out.l⟩
        · skip
          go_wp2
          go_ret2
          exact ⟨by rw [Z.out.1, Z.out.2]; rfl, K4.out.l⟩
  · have N := Lib.hid (show nearL [⟨ax, ay⟩, ⟨bx, by'⟩, ⟨px, py⟩, ⟨qx, qy⟩] = false by rw [nearL4]; exact decide_eq_false h)
    have E : crossP ⟨ax, ay⟩ ⟨bx, by'⟩ ⟨px, py⟩ ⟨qx, qy⟩ = false := by
      unfold crossP; rw [decide_eq_false_iff_not]; exact fun k => h k.1
    have Z := Lib.hid (And.intro (cross_no E) E)
    generalize crossN ⟨ax, ay⟩ ⟨bx, by'⟩ ⟨px, py⟩ ⟨qx, qy⟩ = r1 at *
    generalize crossP ⟨ax, ay⟩ ⟨bx, by'⟩ ⟨px, py⟩ ⟨qx, qy⟩ = r2 at *
    clear h E
    go_enter Try.func13, Try.ntmps13
    go_wp2_with fail
    refine calls_gen (S := fun W => St w W (PbL w ax ay bx by' px py qx qy) ∧ PW W (w.heap.size + 1 + 1 + 1 + 1) [⟨ax, ay⟩, ⟨bx, by'⟩, ⟨px, py⟩, ⟨qx, qy⟩])
      ⟨pb_new (((((BW.new w w.heap.size [_, _] _ rfl).alloc _).alloc _).alloc _).alloc _) ((((BW.new _ _ [_, _] _ (by simp)).alloc _).alloc _).alloc _) (((BW.new _ _ [_, _] _ (by simp)).alloc _).alloc _) ((BW.new _ _ [_, _] _ (by simp)).alloc _) (by repeat (first | exact Below.refl _ _ | assumption | refine Below.setCell ?_ (by first | omega | (simp; done) | (simp; omega)) _ | refine Below.alloc ?_ (by first | omega | (simp; done) | (simp; omega)) _ | refine below_drewN ?_ _ | refine Below.drew ?_ | refine Below.trans ?_ (Below.mono (by assumption) (by first | omega | (simp; done) | (simp; omega))))), PW.four (BW.new _ _ [_, _, _, _, _, _, _, _] _ (by simp))⟩ (fun W0 hS => ?_)
    have K0 := Lib.hid hS.1
    refine (plWithin_any _ 4 _ _ rfl (by omega) hS.2).mono ?_
    clear hS
    rintro e w1 ⟨rfl, h⟩
    have K1 := Lib.hid (K0.out.step h)
    clear h K0
    rw [N.out]
    go_wp2
    go_ret2
    exact ⟨by rw [Z.out.1, Z.out.2]; rfl, K1.out.l⟩
theorem planeC : PlaneC := ⟨plSide_any, plCrosses_any, plMeets_any, plBeyond_any⟩
end Go.Proofs.Ytmfmdipejlnmfaa
