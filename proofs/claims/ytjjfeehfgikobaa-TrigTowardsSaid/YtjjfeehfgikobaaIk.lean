/- Contracts of the program's trig: inFirst, Towards. -/
import Derived.Test.YtjjfeehfgikobaaIi
import Derived.Test.YtjjfeehfgikobaaIe
import Derived.Test.YtjjfeehfgikobaaBk
import Derived.Deep.RegionHeld3
namespace Go.Proofs.Ytjjfeehfgikobaa
open Go.RowKit
set_option linter.unusedVariables false
set_option linter.unusedSimpArgs false

theorem reaches_any (x y c s : Int) (w : World) (x0 : -9223372036854775808 ≤ x) (x1 : x ≤ 9223372036854775807) (y0 : -9223372036854775808 ≤ y) (y1 : y ≤ 9223372036854775807) (c0 : -9223372036854775808 ≤ c) (c1 : c ≤ 9223372036854775807) (s0 : -9223372036854775808 ≤ s) (s1 : s ≤ 9223372036854775807) :
    Calls Try.prog 48 #[.int .i64 x, .int .i64 y, .int .i64 c, .int .i64 s] w fun e w' => e = .returned (.bool (decide (x * s ≤ y * c))) ∧ Below w.heap.size w w' := by
  have I1 := Lib.hid (mul_128 y0 y1 c0 c1)
  have I2 := Lib.hid (mul_128 x0 x1 s0 s1)
  have E := Lib.hid (cmp_holds (y * c) (x * s))
  go_enter Try.func48, Try.ntmps48
  go_wp2_with fail
  refine (Mul_any y c _ y0 y1 c0 c1).mono ?_
  rintro e w1 ⟨rfl, hb1⟩
  have z_w1 := hb1.size
  try simp at z_w1
  have y_w1 : w.heap.size ≤ w1.heap.size := by omega
  go_wp2_with fail
  refine (Mul_any x s _ x0 x1 s0 s1).mono ?_
  rintro e w2 ⟨rfl, hb2⟩
  have z_w2 := hb2.size
  try simp at z_w2
  have y_w2 : w.heap.size ≤ w2.heap.size := by omega
  go_wp2_with fail
  refine (Cmp_any _ _ _ _ (y * c) (x * s) _ (isW_of I1.out) (isW_of I2.out)).mono ?_
  rintro e w3 ⟨rfl, hb3⟩
  have z_w3 := hb3.size
  try simp at z_w3
  have y_w3 : w.heap.size ≤ w3.heap.size := by omega
  go_wp2
  go_ret
  exact ⟨by rw [← E.out]; rfl, by repeat (first | exact Below.refl _ _ | assumption | refine Below.setCell ?_ (by first | omega | (simp; done) | (simp; omega)) _ | refine Below.alloc ?_ (by first | omega | (simp; done) | (simp; omega)) _ | refine below_drewN ?_ _ | refine Below.drew ?_ | refine Below.trans ?_ (Below.mono (by assumption) (by first | omega | (simp; done) | (simp; omega))))⟩
/-- a number in a box of its own -/
def BoxI (W : World) (n : Nat) (x : Int) : Prop := W.cell? ⟨n, 0, none⟩ = some (.int .i64 x) ∧ n < W.heap.size
theorem BoxI.below {W W' : World} {n : Nat} {x : Int} (a : BoxI W n x) {B : Nat} (h : Below B W W') (hn : n < B) : BoxI W' n x := ⟨(h.cell (p := ⟨n, 0, none⟩) hn).trans a.1, by have := h.size; have := a.2; omega⟩
/-- a step in a box of its own -/
def BoxS (W : World) (n : Nat) (a b : Int) : Prop := (W.cell? ⟨n, 0, none⟩ = some (.int .i64 a) ∧ W.cell? ⟨n, 1, none⟩ = some (.int .i64 b)) ∧ n < W.heap.size
theorem BoxS.below {W W' : World} {n : Nat} {a b : Int} (k : BoxS W n a b) {B : Nat} (h : Below B W W') (hn : n < B) : BoxS W' n a b :=
  ⟨⟨(h.cell (p := ⟨n, 0, none⟩) hn).trans k.1.1, (h.cell (p := ⟨n, 1, none⟩) hn).trans k.1.2⟩, by have := h.size; have := k.2; omega⟩
theorem BoxI.drew {W : World} {n : Nat} {x : Int} (a : BoxI W n x) : BoxI W.drew n x := a
theorem BoxS.drew {W : World} {n : Nat} {a b : Int} (k : BoxS W n a b) : BoxS W.drew n a b := k

theorem keepA {W W' : World} {b0 b1 : Nat} {x y : Int} (h : Below W.heap.size W W') (s : (W.cell? ⟨b0, 0, none⟩ = some (.int .i64 x) ∧ b0 < W.heap.size) ∧ (W.cell? ⟨b1, 0, none⟩ = some (.int .i64 y) ∧ b1 < W.heap.size)) : (W'.cell? ⟨b0, 0, none⟩ = some (.int .i64 x) ∧ b0 < W'.heap.size) ∧ (W'.cell? ⟨b1, 0, none⟩ = some (.int .i64 y) ∧ b1 < W'.heap.size) := ⟨BoxI.below s.1 h s.1.2, BoxI.below s.2 h s.2.2⟩
theorem keepB {W W' : World} {b0 b1 b2 b3 : Nat} {x y a b c d : Int} (h : Below W.heap.size W W') (s : ((W.cell? ⟨b0, 0, none⟩ = some (.int .i64 x) ∧ b0 < W.heap.size) ∧ (W.cell? ⟨b1, 0, none⟩ = some (.int .i64 y) ∧ b1 < W.heap.size)) ∧ ((W.cell? ⟨b2, 0, none⟩ = some (.int .i64 c) ∧ W.cell? ⟨b2, 1, none⟩ = some (.int .i64 d)) ∧ b2 < W.heap.size) ∧ ((W.cell? ⟨b3, 0, none⟩ = some (.int .i64 a) ∧ W.cell? ⟨b3, 1, none⟩ = some (.int .i64 b)) ∧ b3 < W.heap.size)) : ((W'.cell? ⟨b0, 0, none⟩ = some (.int .i64 x) ∧ b0 < W'.heap.size) ∧ (W'.cell? ⟨b1, 0, none⟩ = some (.int .i64 y) ∧ b1 < W'.heap.size)) ∧ ((W'.cell? ⟨b2, 0, none⟩ = some (.int .i64 c) ∧ W'.cell? ⟨b2, 1, none⟩ = some (.int .i64 d)) ∧ b2 < W'.heap.size) ∧ ((W'.cell? ⟨b3, 0, none⟩ = some (.int .i64 a) ∧ W'.cell? ⟨b3, 1, none⟩ = some (.int .i64 b)) ∧ b3 < W'.heap.size) := ⟨keepA h s.1, BoxS.below s.2.1 h s.2.1.2, BoxS.below s.2.2 h s.2.2.2⟩
theorem arc_grid {i : Int} (i0 : 0 ≤ i) (i1 : i ≤ 64) : arcF (i * 16777216) = tabS i := by
  unfold arcF
  rw [show i * 16777216 / 16777216 = i by omega, show i * 16777216 % 16777216 = 0 by omega, Int.mul_zero, rq_nought, Int.add_zero]
  split <;> rfl
theorem arc_in_step {i g : Int} (i0 : 0 ≤ i) (i1 : i ≤ 63) (g0 : 0 ≤ g) (g1 : g ≤ 16777216) : stepF (tabS i) (tabS (i + 1)) g = arcF (i * 16777216 + g) := by
  by_cases e : g = 16777216
  · subst e
    rw [show i * 16777216 + 16777216 = (i + 1) * 16777216 by omega, arc_grid (by omega) (by omega)]
    unfold stepF
    rw [rq_exact]; omega
  · rw [arc_step (by omega) (by omega), show (i * 16777216 + g) / 16777216 = i by omega, show (i * 16777216 + g) % 16777216 = g by omega]
/-- the first search's test -/
theorem test_grid (x y : Int) {i : Nat} (h : i < 63) : decide (x * tabS ((i : Int) + 1) ≤ y * tabS (63 - i)) = holdsB x y (((i : Int) + 1) * 16777216) := by
  unfold holdsB
  rw [sin_first (by omega) (by omega), cos_first (by omega) (by omega), arc_grid (by omega) (by omega), show (1073741824 : Int) - ((i : Int) + 1) * 16777216 = (63 - i) * 16777216 by omega, arc_grid (by omega) (by omega)]
/-- the second search's test -/
theorem test_step (x y : Int) {i : Int} (i0 : 0 ≤ i) (i1 : i ≤ 63) {f : Nat} (h : f < 16777216) :
    decide (x * stepF (tabS i) (tabS (i + 1)) ((f : Int) + 1) ≤ y * stepF (tabS (63 - i)) (tabS (63 - i + 1)) (16777216 - f - 1)) = holdsB x y (i * 16777216 + ((f : Int) + 1)) := by
  unfold holdsB
  rw [sin_first (by omega) (by omega), cos_first (by omega) (by omega), arc_in_step i0 i1 (by omega) (by omega), arc_in_step (by omega) (by omega) (by omega) (by omega),
    show (63 - i) * 16777216 + (16777216 - (f : Int) - 1) = 1073741824 - (i * 16777216 + ((f : Int) + 1)) by omega]

set_option maxRecDepth 100000 in
set_option maxHeartbeats 4000000 in
theorem closeA_any (x y : Int) (i : Nat) (b0 b1 : Nat) (w : World) (hi : i < 63) (x0 : -9223372036854775808 ≤ x) (x1 : x ≤ 9223372036854775807) (y0 : -9223372036854775808 ≤ y) (y1 : y ≤ 9223372036854775807) (hx : BoxI w b0 x) (hy : BoxI w b1 y) :
    Calls Try.prog 47 #[.int .i64 i, .pointer (some ⟨b0, 0, none⟩), .pointer (some ⟨b1, 0, none⟩)] w fun e w' => e = .returned (.bool (!holdsB x y (((i : Int) + 1) * 16777216))) ∧ Below w.heap.size w w' := by
  have E := Lib.hid (test_grid x y hi)
  have ta := Lib.hid (tabS_in ((i : Int) + 1))
  have tb := Lib.hid (tabS_in (63 - i))
  have HX := Lib.hid hx
  have HY := Lib.hid hy
  have W1 := Lib.hid (show IntKind.i64.wrap (IntKind.i64.wrap (64 - (i : Int)) - 1) = 63 - i by rw [IntKind.wrap_i64]; (try rw [IntKind.wrap_i64]); omega)
  have W2 := Lib.hid (show IntKind.i64.wrap ((i : Int) + 1) = (i : Int) + 1 by rw [IntKind.wrap_i64]; (try rw [IntKind.wrap_i64]); omega)
  clear hx hy
  go_enter Try.func47, Try.ntmps47
  go_wp2_with fail
  refine wp_region_held_drew (S := fun W => (W.cell? ⟨b0, 0, none⟩ = some (.int .i64 x) ∧ b0 < W.heap.size) ∧ (W.cell? ⟨b1, 0, none⟩ = some (.int .i64 y) ∧ b1 < W.heap.size)) (by kernel_rfl) ⟨HX.out, HY.out⟩ (fun hHeld => ?_)
  refine wpAnyH_takeD 0 5 (v := ?_) (by kernel_rfl) (by kernel_rfl) (by kernel_rfl) (by kernel_rfl) (by rfl) (fun _ _ _ h => h) ?_ hHeld ?_
  rotate_left 1
  (intro o ho W hSw; simp only [List.getElem?_toArray, List.getElem?_cons_succ, List.getElem?_cons_zero, Option.some.injEq] at ho; subst ho; (try dsimp only at hSw); go_simp; try with_reducible rfl)
  (try simp only [Act.put, List.setIfInBounds_toArray, List.set_cons_zero, List.set_cons_succ])
  refine wpAnyH_takeD 1 6 (v := ?_) (by kernel_rfl) (by kernel_rfl) (by kernel_rfl) (by kernel_rfl) (by rfl) (fun _ _ _ h => h) ?_ hHeld ?_
  rotate_left 1
  (intro o ho W hSw; simp only [List.getElem?_toArray, List.getElem?_cons_succ, List.getElem?_cons_zero, Option.some.injEq] at ho; subst ho; (try dsimp only at hSw); go_simp; try with_reducible rfl)
  (try simp only [Act.put, List.setIfInBounds_toArray, List.set_cons_zero, List.set_cons_succ])
  refine wpAnyH_takeD 2 7 (v := ?_) (by kernel_rfl) (by kernel_rfl) (by kernel_rfl) (by kernel_rfl) (by rfl) (fun _ _ _ h => h) ?_ hHeld ?_
  rotate_left 1
  (intro o ho W hSw; simp only [List.getElem?_toArray, List.getElem?_cons_succ, List.getElem?_cons_zero, Option.some.injEq] at ho; subst ho; (try dsimp only at hSw); go_simp; try with_reducible rfl)
  (try simp only [Act.put, List.setIfInBounds_toArray, List.set_cons_zero, List.set_cons_succ])
  refine wpAnyH_takeD 3 8 (v := ?_) (by kernel_rfl) (by kernel_rfl) (by kernel_rfl) (by kernel_rfl) (by rfl) (fun _ _ _ h => h) ?_ hHeld ?_
  rotate_left 1
  (intro o ho W hSw; simp only [List.getElem?_toArray, List.getElem?_cons_succ, List.getElem?_cons_zero, Option.some.injEq] at ho; subst ho; (try dsimp only at hSw); go_simp; try with_reducible rfl)
  (try simp only [Act.put, List.setIfInBounds_toArray, List.set_cons_zero, List.set_cons_succ])
  refine wpAnyH_takeD 4 9 (v := ?_) (by kernel_rfl) (by kernel_rfl) (by kernel_rfl) (by kernel_rfl) (by rfl) (fun _ _ _ h => h) ?_ hHeld ?_
  rotate_left 1
  (intro o ho W hSw; simp only [List.getElem?_toArray, List.getElem?_cons_succ, List.getElem?_cons_zero, Option.some.injEq] at ho; subst ho; (try dsimp only at hSw); go_simp; try with_reducible rfl)
  (try simp only [Act.put, List.setIfInBounds_toArray, List.set_cons_zero, List.set_cons_succ])
  refine wpAnyH_takeD 6 11 (v := ?_) (by kernel_rfl) (by kernel_rfl) (by kernel_rfl) (by kernel_rfl) (by rfl) (fun _ _ _ h => h) ?_ hHeld ?_
  rotate_left 1
  (intro o ho W hSw; simp only [List.getElem?_toArray, List.getElem?_cons_succ, List.getElem?_cons_zero, Option.some.injEq] at ho; subst ho; (try dsimp only at hSw); go_simp; try with_reducible rfl)
  (try simp only [Act.put, List.setIfInBounds_toArray, List.set_cons_zero, List.set_cons_succ])
  refine wpAnyH_takeD 7 12 (v := ?_) (by kernel_rfl) (by kernel_rfl) (by kernel_rfl) (by kernel_rfl) (by rfl) (fun _ _ _ h => h) ?_ hHeld ?_
  rotate_left 1
  (intro o ho W hSw; simp only [List.getElem?_toArray, List.getElem?_cons_succ, List.getElem?_cons_zero, Option.some.injEq] at ho; subst ho; (try dsimp only at hSw); go_simp; try with_reducible rfl)
  (try simp only [Act.put, List.setIfInBounds_toArray, List.set_cons_zero, List.set_cons_succ])
  refine wpAnyH_onlyD 5 (by kernel_rfl) (fun o ho K hK => ?_) (by kernel_rfl)
  simp only [List.getElem?_toArray, List.getElem?_cons_succ, List.getElem?_cons_zero, Option.some.injEq] at ho
  subst ho
  go_simp
  rw [W1.out]
  refine (Table_any (63 - i) _ (by omega) (by omega)).mono ?_
  rintro e w1 ⟨rfl, h1⟩
  have B1 := Lib.hid ((show Below w.heap.size w w.drew from (Below.refl _ w).drew).trans (h1.mono (Nat.le_refl _)))
  go_wp2_with fail
  refine hK.out _ _ (keepA h1 hHeld) (fun hHeld => ?_)
  clear hK K
  clear h1
  refine wpAnyH_onlyD 8 (by kernel_rfl) (fun o ho K hK => ?_) (by kernel_rfl)
  simp only [List.getElem?_toArray, List.getElem?_cons_succ, List.getElem?_cons_zero, Option.some.injEq] at ho
  subst ho
  go_simp
  rw [W2.out]
  refine (Table_any ((i : Int) + 1) _ (by omega) (by omega)).mono ?_
  rintro e w2 ⟨rfl, h2⟩
  have B2 := Lib.hid (B1.out.trans (h2.mono B1.out.size))
  go_wp2_with fail
  refine hK.out _ _ (keepA h2 hHeld) (fun hHeld => ?_)
  clear hK K
  clear h2 B1
  refine wpAnyH_onlyD 9 (by kernel_rfl) (fun o ho K hK => ?_) (by kernel_rfl)
  simp only [List.getElem?_toArray, List.getElem?_cons_succ, List.getElem?_cons_zero, Option.some.injEq] at ho
  subst ho
  go_simp
  refine (reaches_any x y (tabS (63 - i)) (tabS ((i : Int) + 1)) _ x0 x1 y0 y1 (by have := tb.out; omega) (by have := tb.out; omega) (by have := ta.out; omega) (by have := ta.out; omega)).mono ?_
  rw [E.out]
  rintro e w3 ⟨rfl, h3⟩
  have B3 := Lib.hid (B2.out.trans (h3.mono B2.out.size))
  go_wp2_with fail
  refine hK.out _ _ (keepA h3 hHeld) (fun hHeld => ?_)
  clear hK K
  clear h3 B2
  refine wpAnyH_takeD 10 15 (v := ?_) (by kernel_rfl) (by kernel_rfl) (by kernel_rfl) (by kernel_rfl) (by rfl) (fun _ _ _ h => h) ?_ hHeld ?_
  rotate_left 1
  (intro o ho W hSw; simp only [List.getElem?_toArray, List.getElem?_cons_succ, List.getElem?_cons_zero, Option.some.injEq] at ho; subst ho; (try dsimp only at hSw); go_simp; try with_reducible rfl)
  (try simp only [Act.put, List.setIfInBounds_toArray, List.set_cons_zero, List.set_cons_succ])
  refine wpAnyH_takeD 11 4 (v := ?_) (by kernel_rfl) (by kernel_rfl) (by kernel_rfl) (by kernel_rfl) (by rfl) (fun _ _ _ h => h) ?_ hHeld ?_
  rotate_left 1
  (intro o ho W hSw; simp only [List.getElem?_toArray, List.getElem?_cons_succ, List.getElem?_cons_zero, Option.some.injEq] at ho; subst ho; (try dsimp only at hSw); go_simp; try with_reducible rfl)
  (try simp only [Act.put, List.setIfInBounds_toArray, List.set_cons_zero, List.set_cons_succ])
  refine wpAnyH_done (by kernel_rfl) ?_ _
  go_wp2
  go_ret
  exact ⟨rfl, B3.out⟩
set_option maxRecDepth 100000 in
set_option maxHeartbeats 4000000 in
theorem closeB_any (x y i : Int) (f : Nat) (b0 b1 b2 b3 : Nat) (w : World) (i0 : 0 ≤ i) (i1 : i ≤ 63) (hf : f < 16777216) (x0 : -9223372036854775808 ≤ x) (x1 : x ≤ 9223372036854775807) (y0 : -9223372036854775808 ≤ y) (y1 : y ≤ 9223372036854775807) (hx : BoxI w b0 x) (hy : BoxI w b1 y) (hu : BoxS w b2 (tabS (63 - i)) (tabS (63 - i + 1))) (hv : BoxS w b3 (tabS i) (tabS (i + 1))) :
    Calls Try.prog 49 #[.int .i64 f, .pointer (some ⟨b0, 0, none⟩), .pointer (some ⟨b1, 0, none⟩), .pointer (some ⟨b2, 0, none⟩), .pointer (some ⟨b3, 0, none⟩)] w fun e w' => e = .returned (.bool (!holdsB x y (i * 16777216 + ((f : Int) + 1)))) ∧ Below w.heap.size w w' := by
  have E := test_step x y i0 i1 hf
  have ta := tab_step (i := i) (by omega) (by omega)
  have tb := tab_step (i := 63 - i) (by omega) (by omega)
  have sa := arc_in_step i0 i1 (g := (f : Int) + 1) (by omega) (by omega)
  have sb := arc_in_step (i := 63 - i) (by omega) (by omega) (g := 16777216 - f - 1) (by omega) (by omega)
  have ra := arc_in (r := i * 16777216 + ((f : Int) + 1)) (by omega) (by omega)
  have rb := arc_in (r := (63 - i) * 16777216 + (16777216 - (f : Int) - 1)) (by omega) (by omega)
  rw [← sa] at ra
  rw [← sb] at rb
  obtain ⟨a, ha⟩ : ∃ a, tabS i = a := ⟨_, rfl⟩
  obtain ⟨b, hb⟩ : ∃ a, tabS (i + 1) = a := ⟨_, rfl⟩
  obtain ⟨c, hc⟩ : ∃ a, tabS (63 - i) = a := ⟨_, rfl⟩
  obtain ⟨d, hd⟩ : ∃ a, tabS (63 - i + 1) = a := ⟨_, rfl⟩
  rw [ha, hb] at ta E ra hv
  rw [hc, hd] at tb E rb hu
  have HE := Lib.hid E
  have TA := Lib.hid ta
  have TB := Lib.hid tb
  have RA := Lib.hid (And.intro ra.2.1 ra.2.2.1)
  have RB := Lib.hid (And.intro rb.2.1 rb.2.2.1)
  have HX := Lib.hid hx
  have HY := Lib.hid hy
  have HU := Lib.hid hu
  have HV := Lib.hid hv
  have W1 := Lib.hid (show IntKind.i64.wrap (IntKind.i64.wrap (16777216 - (f : Int)) - 1) = 16777216 - f - 1 by rw [IntKind.wrap_i64]; (try rw [IntKind.wrap_i64]); omega)
  have W2 := Lib.hid (show IntKind.i64.wrap ((f : Int) + 1) = (f : Int) + 1 by rw [IntKind.wrap_i64]; (try rw [IntKind.wrap_i64]); omega)
  clear hx hy hu hv E ta tb sa sb ra rb ha hb hc hd
  go_enter Try.func49, Try.ntmps49
  go_wp2_with fail
  refine wp_region_held_drew (S := fun W => ((W.cell? ⟨b0, 0, none⟩ = some (.int .i64 x) ∧ b0 < W.heap.size) ∧ (W.cell? ⟨b1, 0, none⟩ = some (.int .i64 y) ∧ b1 < W.heap.size)) ∧ ((W.cell? ⟨b2, 0, none⟩ = some (.int .i64 c) ∧ W.cell? ⟨b2, 1, none⟩ = some (.int .i64 d)) ∧ b2 < W.heap.size) ∧ ((W.cell? ⟨b3, 0, none⟩ = some (.int .i64 a) ∧ W.cell? ⟨b3, 1, none⟩ = some (.int .i64 b)) ∧ b3 < W.heap.size)) (by kernel_rfl) ⟨⟨HX.out, HY.out⟩, HU.out, HV.out⟩ (fun hHeld => ?_)
  refine wpAnyH_takeD 0 7 (v := ?_) (by kernel_rfl) (by kernel_rfl) (by kernel_rfl) (by kernel_rfl) (by rfl) (fun _ _ _ h => h) ?_ hHeld ?_
  rotate_left 1
  (intro o ho W hSw; simp only [List.getElem?_toArray, List.getElem?_cons_succ, List.getElem?_cons_zero, Option.some.injEq] at ho; subst ho; (try dsimp only at hSw); go_simp; try with_reducible rfl)
  (try simp only [Act.put, List.setIfInBounds_toArray, List.set_cons_zero, List.set_cons_succ])
  refine wpAnyH_takeD 1 8 (v := ?_) (by kernel_rfl) (by kernel_rfl) (by kernel_rfl) (by kernel_rfl) (by rfl) (fun _ _ _ h => h) ?_ hHeld ?_
  rotate_left 1
  (intro o ho W hSw; simp only [List.getElem?_toArray, List.getElem?_cons_succ, List.getElem?_cons_zero, Option.some.injEq] at ho; subst ho; (try dsimp only at hSw); go_simp; try with_reducible rfl)
  (try simp only [Act.put, List.setIfInBounds_toArray, List.set_cons_zero, List.set_cons_succ])
  refine wpAnyH_takeD 2 9 (v := ?_) (by kernel_rfl) (by kernel_rfl) (by kernel_rfl) (by kernel_rfl) (by rfl) (fun _ _ _ h => h) ?_ hHeld ?_
  rotate_left 1
  (intro o ho W hSw; simp only [List.getElem?_toArray, List.getElem?_cons_succ, List.getElem?_cons_zero, Option.some.injEq] at ho; subst ho; (try dsimp only at hSw); go_simp; try with_reducible rfl)
  (try simp only [Act.put, List.setIfInBounds_toArray, List.set_cons_zero, List.set_cons_succ])
  refine wpAnyH_takeD 3 10 (v := ?_) (by kernel_rfl) (by kernel_rfl) (by kernel_rfl) (by kernel_rfl) (by rfl) (fun _ _ _ h => h) ?_ hHeld ?_
  rotate_left 1
  (intro o ho W hSw; simp only [List.getElem?_toArray, List.getElem?_cons_succ, List.getElem?_cons_zero, Option.some.injEq] at ho; subst ho; (try dsimp only at hSw); go_simp; try with_reducible rfl)
  (try simp only [Act.put, List.setIfInBounds_toArray, List.set_cons_zero, List.set_cons_succ])
  refine wpAnyH_takeD 4 11 (v := ?_) (by kernel_rfl) (by kernel_rfl) (by kernel_rfl) (by kernel_rfl) (by rfl) (fun _ _ _ h => h) ?_ hHeld ?_
  rotate_left 1
  (intro o ho W hSw; simp only [List.getElem?_toArray, List.getElem?_cons_succ, List.getElem?_cons_zero, Option.some.injEq] at ho; subst ho; (try dsimp only at hSw); go_simp; try with_reducible rfl)
  (try simp only [Act.put, List.setIfInBounds_toArray, List.set_cons_zero, List.set_cons_succ])
  refine wpAnyH_takeD 5 12 (v := ?_) (by kernel_rfl) (by kernel_rfl) (by kernel_rfl) (by kernel_rfl) (by rfl) (fun _ _ _ h => h) ?_ hHeld ?_
  rotate_left 1
  (intro o ho W hSw; simp only [List.getElem?_toArray, List.getElem?_cons_succ, List.getElem?_cons_zero, Option.some.injEq] at ho; subst ho; (try dsimp only at hSw); go_simp; try with_reducible rfl)
  (try simp only [Act.put, List.setIfInBounds_toArray, List.set_cons_zero, List.set_cons_succ])
  refine wpAnyH_takeD 7 14 (v := ?_) (by kernel_rfl) (by kernel_rfl) (by kernel_rfl) (by kernel_rfl) (by rfl) (fun _ _ _ h => h) ?_ hHeld ?_
  rotate_left 1
  (intro o ho W hSw; simp only [List.getElem?_toArray, List.getElem?_cons_succ, List.getElem?_cons_zero, Option.some.injEq] at ho; subst ho; (try dsimp only at hSw); go_simp; try with_reducible rfl)
  (try simp only [Act.put, List.setIfInBounds_toArray, List.set_cons_zero, List.set_cons_succ])
  refine wpAnyH_takeD 8 15 (v := ?_) (by kernel_rfl) (by kernel_rfl) (by kernel_rfl) (by kernel_rfl) (by rfl) (fun _ _ _ h => h) ?_ hHeld ?_
  rotate_left 1
  (intro o ho W hSw; simp only [List.getElem?_toArray, List.getElem?_cons_succ, List.getElem?_cons_zero, Option.some.injEq] at ho; subst ho; (try dsimp only at hSw); go_simp; try with_reducible rfl)
  (try simp only [Act.put, List.setIfInBounds_toArray, List.set_cons_zero, List.set_cons_succ])
  refine wpAnyH_takeD 9 16 (v := ?_) (by kernel_rfl) (by kernel_rfl) (by kernel_rfl) (by kernel_rfl) (by rfl) (fun _ _ _ h => h) ?_ hHeld ?_
  rotate_left 1
  (intro o ho W hSw; simp only [List.getElem?_toArray, List.getElem?_cons_succ, List.getElem?_cons_zero, Option.some.injEq] at ho; subst ho; (try dsimp only at hSw); go_simp; try with_reducible rfl)
  (try simp only [Act.put, List.setIfInBounds_toArray, List.set_cons_zero, List.set_cons_succ])
  refine wpAnyH_onlyD 6 (by kernel_rfl) (fun o ho K hK => ?_) (by kernel_rfl)
  simp only [List.getElem?_toArray, List.getElem?_cons_succ, List.getElem?_cons_zero, Option.some.injEq] at ho
  subst ho
  go_simp
  rw [W1.out]
  refine (at_any c d (16777216 - f - 1) _ TB.out.2.1 TB.out.1 TB.out.2.2 (by omega) (by omega)).mono ?_
  rintro e w1 ⟨rfl, h1⟩
  have B1 := Lib.hid ((show Below w.heap.size w w.drew from (Below.refl _ w).drew).trans (h1.mono (Nat.le_refl _)))
  go_wp2_with fail
  refine hK.out _ _ (keepB h1 hHeld) (fun hHeld => ?_)
  clear hK K
  clear h1
  refine wpAnyH_onlyD 10 (by kernel_rfl) (fun o ho K hK => ?_) (by kernel_rfl)
  simp only [List.getElem?_toArray, List.getElem?_cons_succ, List.getElem?_cons_zero, Option.some.injEq] at ho
  subst ho
  go_simp
  rw [W2.out]
  refine (at_any a b ((f : Int) + 1) _ TA.out.2.1 TA.out.1 TA.out.2.2 (by omega) (by omega)).mono ?_
  rintro e w2 ⟨rfl, h2⟩
  have B2 := Lib.hid (B1.out.trans (h2.mono B1.out.size))
  go_wp2_with fail
  refine hK.out _ _ (keepB h2 hHeld) (fun hHeld => ?_)
  clear hK K
  clear h2 B1
  refine wpAnyH_onlyD 11 (by kernel_rfl) (fun o ho K hK => ?_) (by kernel_rfl)
  simp only [List.getElem?_toArray, List.getElem?_cons_succ, List.getElem?_cons_zero, Option.some.injEq] at ho
  subst ho
  go_simp
  refine (reaches_any x y _ _ _ x0 x1 y0 y1 (by have := RB.out; omega) (by have := RB.out; omega) (by have := RA.out; omega) (by have := RA.out; omega)).mono ?_
  rw [HE.out]
  rintro e w3 ⟨rfl, h3⟩
  have B3 := Lib.hid (B2.out.trans (h3.mono B2.out.size))
  go_wp2_with fail
  refine hK.out _ _ (keepB h3 hHeld) (fun hHeld => ?_)
  clear hK K
  clear h3 B2
  refine wpAnyH_takeD 12 19 (v := ?_) (by kernel_rfl) (by kernel_rfl) (by kernel_rfl) (by kernel_rfl) (by rfl) (fun _ _ _ h => h) ?_ hHeld ?_
  rotate_left 1
  (intro o ho W hSw; simp only [List.getElem?_toArray, List.getElem?_cons_succ, List.getElem?_cons_zero, Option.some.injEq] at ho; subst ho; (try dsimp only at hSw); go_simp; try with_reducible rfl)
  (try simp only [Act.put, List.setIfInBounds_toArray, List.set_cons_zero, List.set_cons_succ])
  refine wpAnyH_takeD 13 6 (v := ?_) (by kernel_rfl) (by kernel_rfl) (by kernel_rfl) (by kernel_rfl) (by rfl) (fun _ _ _ h => h) ?_ hHeld ?_
  rotate_left 1
  (intro o ho W hSw; simp only [List.getElem?_toArray, List.getElem?_cons_succ, List.getElem?_cons_zero, Option.some.injEq] at ho; subst ho; (try dsimp only at hSw); go_simp; try with_reducible rfl)
  (try simp only [Act.put, List.setIfInBounds_toArray, List.set_cons_zero, List.set_cons_succ])
  refine wpAnyH_done (by kernel_rfl) ?_ _
  go_wp2
  go_ret
  exact ⟨rfl, B3.out⟩
theorem holdsB_down {x y s t : Int} (x0 : 0 ≤ x) (y0 : 0 ≤ y) (s0 : 0 ≤ s) (h : s ≤ t) (t1 : t ≤ 1073741824) (k : (!holdsB x y s) = true) : (!holdsB x y t) = true := by
  cases e : holdsB x y t with
  | false => rfl
  | true =>
    have := holdsB_iff.2 (holds_down x0 y0 s0 h t1 (holdsB_iff.1 e))
    rw [this] at k; cases k
/-- what both searches tell together -/
theorem first_two {x y : Int} (x0 : 0 ≤ x) (y0 : 0 ≤ y) {i f : Nat} (i1 : i ≤ 63) (f1 : f ≤ 16777216)
    (ha : ∀ k : Nat, k < i → (!holdsB x y (((k : Int) + 1) * 16777216)) = false) (hb : ∀ k : Nat, i ≤ k → k < 63 → (!holdsB x y (((k : Int) + 1) * 16777216)) = true)
    (hc : ∀ k : Nat, k < f → (!holdsB x y ((i : Int) * 16777216 + ((k : Int) + 1))) = false) (hd : ∀ k : Nat, f ≤ k → k < 16777216 → (!holdsB x y ((i : Int) * 16777216 + ((k : Int) + 1))) = true) :
    firstF x y = (i : Int) * 16777216 + f := by
  refine firstF_eq x0 y0 ⟨by omega, by omega, ?_, fun h => ?_⟩
  · by_cases f0 : f = 0
    · subst f0
      by_cases z : i = 0
      · subst z; exact holds_nought y0
      · have := ha (i - 1) (by omega)
        rw [show (((i - 1 : Nat) : Int) + 1) * 16777216 = (i : Int) * 16777216 + ((0 : Nat) : Int) by omega] at this
        exact holdsB_iff.1 (by simpa using this)
    · have := hc (f - 1) (by omega)
      rw [show (i : Int) * 16777216 + (((f - 1 : Nat) : Int) + 1) = (i : Int) * 16777216 + (f : Int) by omega] at this
      exact holdsB_iff.1 (by simpa using this)
  · by_cases e : f = 16777216
    · subst e
      have a := hc (16777216 - 1) (by omega)
      have b := hb i (Nat.le_refl _) (by omega)
      rw [show (i : Int) * 16777216 + (((16777216 - 1 : Nat) : Int) + 1) = ((i : Int) + 1) * 16777216 by omega] at a
      rw [a] at b; cases b
    · have := hd f (Nat.le_refl _) (by omega)
      rw [show (i : Int) * 16777216 + ((f : Int) + 1) = (i : Int) * 16777216 + (f : Int) + 1 by omega] at this
      intro k
      rw [holdsB_iff.2 k] at this; cases this
set_option maxRecDepth 100000 in
set_option maxHeartbeats 4000000 in
theorem inFirst_any (x y : Int) (w : World) (x0 : 0 ≤ x) (x1 : x ≤ 9223372036854775807) (y0 : 0 ≤ y) (y1 : y ≤ 9223372036854775807) :
    Calls Try.prog 29 #[.int .i64 x, .int .i64 y] w fun e w' => e = .returned (.int .u32 (firstF x y)) ∧ Below w.heap.size w w' := by
  have hmf : ∀ (fn : Fn) (first cap : Array Value) (w : World), (Instr.makeFunc fn first cap).run Try.prog w = .ok (.func fn first cap) w := fun _ _ _ _ => rfl
  have HX := Lib.hid (show BoxI ((w.alloc (.cells #[.int .i64 x] 22)).alloc (.cells #[.int .i64 y] 22)) w.heap.size x from ⟨by go_simp, by simp; omega⟩)
  have HY := Lib.hid (show BoxI ((w.alloc (.cells #[.int .i64 x] 22)).alloc (.cells #[.int .i64 y] 22)) (w.heap.size + 1) y from ⟨by go_simp, by simp⟩)
  go_enter Try.func29, Try.ntmps29
  go_wp2_with fail
  refine (search_any 47 #[.pointer (some ⟨w.heap.size, 0, none⟩), .pointer (some ⟨w.heap.size + 1, 0, none⟩)] 63 (fun i => !holdsB x y (((i : Int) + 1) * 16777216)) _ (fun _ _ => rfl) (by omega) (fun i wr hi hb => closeA_any x y i _ _ wr hi (by omega) x1 (by omega) y1 (HX.out.below hb (by simp; omega)) (HY.out.below hb (by simp))) (fun a b hab hb h => holdsB_down x0 y0 (by omega) (by omega) (by omega) h)).mono ?_
  rintro e w1 ⟨⟨i, rfl, hi, ha, hb⟩, h1⟩
  have HA := Lib.hid (And.intro ha hb)
  have HX1 := Lib.hid (HX.out.below h1 (by simp; omega))
  have HY1 := Lib.hid (HY.out.below h1 (by simp))
  have B1 := Lib.hid (show Below w.heap.size w w1 by repeat (first | exact Below.refl _ _ | assumption | refine Below.setCell ?_ (by first | omega | (simp; done) | (simp; omega)) _ | refine Below.alloc ?_ (by first | omega | (simp; done) | (simp; omega)) _ | refine below_drewN ?_ _ | refine Below.drew ?_ | refine Below.trans ?_ (Below.mono (by assumption) (by first | omega | (simp; done) | (simp; omega)))))
  have z1 : w.heap.size + 1 < w1.heap.size := by have := h1.size; simp at this; omega
  clear HX HY h1 ha hb
  go_wp2_with fail
  refine (spanFrom_any i _ (by omega) (by omega)).mono ?_
  rintro e w2 ⟨rfl, h2⟩
  have HX2 := Lib.hid (HX1.out.below h2 (by omega))
  have HY2 := Lib.hid (HY1.out.below h2 (by omega))
  have B2 := Lib.hid (B1.out.trans (h2.mono B1.out.size))
  have z2 : w.heap.size + 1 < w2.heap.size := by have := h2.size; omega
  clear HX1 HY1 h2 B1
  go_wp2_with fail
  rw [show (64 : Int) - (i : Int) - 1 = 63 - i by omega]
  refine (spanFrom_any (63 - i) _ (by omega) (by omega)).mono ?_
  rintro e w3 ⟨rfl, h3⟩
  have HX3 := Lib.hid (HX2.out.below h3 (by omega))
  have HY3 := Lib.hid (HY2.out.below h3 (by omega))
  have B3 := Lib.hid (B2.out.trans (h3.mono B2.out.size))
  have z3 : w.heap.size + 1 < w3.heap.size := by have := h3.size; omega
  clear HX2 HY2 h3 B2
  go_wp2_with fail
  have HU := Lib.hid (show BoxS ((w3.alloc (.cells #[.int .i64 (tabS i), .int .i64 (tabS (i + 1))] 70)).alloc (.cells #[.int .i64 (tabS (63 - i)), .int .i64 (tabS (63 - i + 1))] 70)) (w3.heap.size + 1) (tabS (63 - i)) (tabS (63 - i + 1)) from ⟨⟨by go_simp, by go_simp⟩, by simp⟩)
  have HV := Lib.hid (show BoxS ((w3.alloc (.cells #[.int .i64 (tabS i), .int .i64 (tabS (i + 1))] 70)).alloc (.cells #[.int .i64 (tabS (63 - i)), .int .i64 (tabS (63 - i + 1))] 70)) w3.heap.size (tabS i) (tabS (i + 1)) from ⟨⟨by go_simp, by go_simp⟩, by simp; omega⟩)
  have B4 := Lib.hid (show Below w3.heap.size w3 ((w3.alloc (.cells #[.int .i64 (tabS i), .int .i64 (tabS (i + 1))] 70)).alloc (.cells #[.int .i64 (tabS (63 - i)), .int .i64 (tabS (63 - i + 1))] 70)) by repeat (first | exact Below.refl _ _ | assumption | refine Below.setCell ?_ (by first | omega | (simp; done) | (simp; omega)) _ | refine Below.alloc ?_ (by first | omega | (simp; done) | (simp; omega)) _ | refine below_drewN ?_ _ | refine Below.drew ?_ | refine Below.trans ?_ (Below.mono (by assumption) (by first | omega | (simp; done) | (simp; omega)))))
  have z4 : ((w3.alloc (.cells #[.int .i64 (tabS i), .int .i64 (tabS (i + 1))] 70)).alloc (.cells #[.int .i64 (tabS (63 - i)), .int .i64 (tabS (63 - i + 1))] 70)).heap.size = w3.heap.size + 1 + 1 := by simp
  generalize (w3.alloc (.cells #[.int .i64 (tabS i), .int .i64 (tabS (i + 1))] 70)).alloc (.cells #[.int .i64 (tabS (63 - i)), .int .i64 (tabS (63 - i + 1))] 70) = W4 at *
  have HX4 := Lib.hid (HX3.out.below B4.out (by omega))
  have HY4 := Lib.hid (HY3.out.below B4.out (by omega))
  have B5 := Lib.hid (B3.out.trans (B4.out.mono (by omega)))
  clear HX3 HY3 B3 B4
  refine (search_any 49 #[.pointer (some ⟨w.heap.size, 0, none⟩), .pointer (some ⟨w.heap.size + 1, 0, none⟩), .pointer (some ⟨w3.heap.size + 1, 0, none⟩), .pointer (some ⟨w3.heap.size, 0, none⟩)] 16777216 (fun f => !holdsB x y ((i : Int) * 16777216 + ((f : Int) + 1))) _ (fun _ _ => rfl) (by omega)
    (fun f wr hf hb => closeB_any x y i f _ _ _ _ wr (by omega) (by omega) hf (by omega) x1 (by omega) y1 (HX4.out.below hb (by omega)) (HY4.out.below hb (by omega)) (HU.out.below hb (by omega)) (HV.out.below hb (by omega)))
    (fun a b hab hb h => holdsB_down x0 y0 (by omega) (by omega) (by omega) h)).mono ?_
  rintro e w5 ⟨⟨f, rfl, hf, hc, hd⟩, h5⟩
  have E := Lib.hid (first_two x0 y0 hi hf HA.out.1 HA.out.2 hc hd)
  have B6 := Lib.hid (B5.out.trans (h5.mono (by have := B5.out.size; omega)))
  clear HX4 HY4 HU HV h5 B5 hc hd HA
  go_wp2
  go_ret
  exact ⟨retI (by rw [E.out]; first | done | ((try rw [IntKind.wrap_u32]); omega)), B6.out⟩
theorem tow_pp {x y : Int} (h : ¬ (x = 0 ∧ y = 0)) (x0 : 0 ≤ x) (x1 : x ≤ 9223372036854775807) (y0 : 0 ≤ y) (y1 : y ≤ 9223372036854775807) : towF x y = firstF x y := by
  have f := firstF_in x0 y0
  unfold towF
  rw [above_same (by omega), above_same (by omega), dir_pp h x0 y0]
  omega
set_option maxHeartbeats 1000000 in
theorem TowP_any (x y : Int) (w : World) (x0 : 0 ≤ x) (x1 : x ≤ 9223372036854775807) (y0 : 0 ≤ y) (y1 : y ≤ 9223372036854775807) :
    Calls Try.prog 17 #[.int .i64 x, .int .i64 y] w fun e w' => e = .returned (.int .u32 (towF x y)) ∧ Below w.heap.size w w' := by
  have mx : max x (-9223372036854775807) = x := by omega
  have my : max y (-9223372036854775807) = y := by omega
  by_cases z : x = 0 ∧ y = 0
  · obtain ⟨rfl, rfl⟩ := z
    have HE := Lib.hid (show 0 = towF 0 0 by unfold towF; rw [above_same (by omega)]; decide)
    go_enter Try.func17, Try.ntmps17
    go_wp2
    go_ret
    exact ⟨retI HE.out, by repeat (first | exact Below.refl _ _ | assumption | refine Below.setCell ?_ (by first | omega | (simp; done) | (simp; omega)) _ | refine Below.alloc ?_ (by first | omega | (simp; done) | (simp; omega)) _ | refine below_drewN ?_ _ | refine Below.drew ?_ | refine Below.trans ?_ (Below.mono (by assumption) (by first | omega | (simp; done) | (simp; omega))))⟩
  · have E := Lib.hid (tow_pp z x0 x1 y0 y1)
    rw [E.out]
    by_cases zx : x = 0
    · subst zx
      have ty : (y == 0) = false := by simp; omega
      clear z
      go_enter Try.func17, Try.ntmps17
      go_wp2_with fail
      refine (inFirst_any 0 y _ (by omega) (by omega) (by omega) (by omega)).mono ?_
      rintro e w1 ⟨rfl, hb1⟩
      have z_w1 := hb1.size
      try simp at z_w1
      have y_w1 : w.heap.size ≤ w1.heap.size := by omega
      go_wp2
      go_ret
      exact ⟨rfl, by repeat (first | exact Below.refl _ _ | assumption | refine Below.setCell ?_ (by first | omega | (simp; done) | (simp; omega)) _ | refine Below.alloc ?_ (by first | omega | (simp; done) | (simp; omega)) _ | refine below_drewN ?_ _ | refine Below.drew ?_ | refine Below.trans ?_ (Below.mono (by assumption) (by first | omega | (simp; done) | (simp; omega))))⟩
    · have tx := ne_beq zx
      clear z
      go_enter Try.func17, Try.ntmps17
      go_wp2_with fail
      refine (inFirst_any x y _ (by omega) (by omega) (by omega) (by omega)).mono ?_
      rintro e w1 ⟨rfl, hb1⟩
      have z_w1 := hb1.size
      try simp at z_w1
      have y_w1 : w.heap.size ≤ w1.heap.size := by omega
      go_wp2
      go_ret
      exact ⟨rfl, by repeat (first | exact Below.refl _ _ | assumption | refine Below.setCell ?_ (by first | omega | (simp; done) | (simp; omega)) _ | refine Below.alloc ?_ (by first | omega | (simp; done) | (simp; omega)) _ | refine below_drewN ?_ _ | refine Below.drew ?_ | refine Below.trans ?_ (Below.mono (by assumption) (by first | omega | (simp; done) | (simp; omega))))⟩
set_option maxHeartbeats 4000000 in
theorem Towards_any (x y : Int) (w : World) (x0 : -9223372036854775808 ≤ x) (x1 : x ≤ 9223372036854775807) (y0 : -9223372036854775808 ≤ y) (y1 : y ≤ 9223372036854775807) :
    Calls Try.prog 17 #[.int .i64 x, .int .i64 y] w fun e w' => e = .returned (.int .u32 (towF x y)) ∧ Below w.heap.size w w' := by
  have mx : max x (-9223372036854775807) = aboveF x := by unfold aboveF; split <;> omega
  have my : max y (-9223372036854775807) = aboveF y := by unfold aboveF; split <;> omega
  have bx : -9223372036854775807 ≤ aboveF x ∧ aboveF x ≤ 9223372036854775807 := by unfold aboveF; split <;> omega
  have by' : -9223372036854775807 ≤ aboveF y ∧ aboveF y ≤ 9223372036854775807 := by unfold aboveF; split <;> omega
  have E : towF x y = dirF (aboveF x) (aboveF y) % 4294967296 := rfl
  obtain ⟨X, hX⟩ : ∃ X, aboveF x = X := ⟨_, rfl⟩
  obtain ⟨Y, hY⟩ : ∃ Y, aboveF y = Y := ⟨_, rfl⟩
  rw [hX] at mx bx E
  rw [hY] at my by' E
  have b0 := bx.1
  have b1 := bx.2
  have c0 := by'.1
  have c1 := by'.2
  clear hX hY bx by'
  by_cases z : X = 0 ∧ Y = 0
  · obtain ⟨rfl, rfl⟩ := z
    have HE := Lib.hid (show 0 = towF x y by rw [E]; decide)
    clear E
    go_enter Try.func17, Try.ntmps17
    go_wp2
    go_ret
    exact ⟨retI HE.out, by repeat (first | exact Below.refl _ _ | assumption | refine Below.setCell ?_ (by first | omega | (simp; done) | (simp; omega)) _ | refine Below.alloc ?_ (by first | omega | (simp; done) | (simp; omega)) _ | refine below_drewN ?_ _ | refine Below.drew ?_ | refine Below.trans ?_ (Below.mono (by assumption) (by first | omega | (simp; done) | (simp; omega))))⟩
  · by_cases p : 0 ≤ X
    · by_cases q : 0 ≤ Y
      · rw [dir_pp z p q] at E
        have FI := firstF_in (x := X) (y := Y) p q
        have HE := Lib.hid (show firstF X Y = towF x y by rw [E]; omega)
        rw [← HE.out]
        clear E FI
        by_cases zx : X = 0
        · subst zx
          have ty : (Y == 0) = false := by simp; omega
          clear z
          go_enter Try.func17, Try.ntmps17
          go_wp2_with fail
          refine (inFirst_any 0 Y _ (by omega) (by omega) (by omega) (by omega)).mono ?_
          rintro e w1 ⟨rfl, hb1⟩
          have z_w1 := hb1.size
          try simp at z_w1
          have y_w1 : w.heap.size ≤ w1.heap.size := by omega
          go_wp2
          go_ret
          exact ⟨rfl, by repeat (first | exact Below.refl _ _ | assumption | refine Below.setCell ?_ (by first | omega | (simp; done) | (simp; omega)) _ | refine Below.alloc ?_ (by first | omega | (simp; done) | (simp; omega)) _ | refine below_drewN ?_ _ | refine Below.drew ?_ | refine Below.trans ?_ (Below.mono (by assumption) (by first | omega | (simp; done) | (simp; omega))))⟩
        · have tx := ne_beq zx
          clear z
          go_enter Try.func17, Try.ntmps17
          go_wp2_with fail
          refine (inFirst_any X Y _ (by omega) (by omega) (by omega) (by omega)).mono ?_
          rintro e w1 ⟨rfl, hb1⟩
          have z_w1 := hb1.size
          try simp at z_w1
          have y_w1 : w.heap.size ≤ w1.heap.size := by omega
          go_wp2
          go_ret
          exact ⟨rfl, by repeat (first | exact Below.refl _ _ | assumption | refine Below.setCell ?_ (by first | omega | (simp; done) | (simp; omega)) _ | refine Below.alloc ?_ (by first | omega | (simp; done) | (simp; omega)) _ | refine below_drewN ?_ _ | refine Below.drew ?_ | refine Below.trans ?_ (Below.mono (by assumption) (by first | omega | (simp; done) | (simp; omega))))⟩
      · have ty : (Y == 0) = false := by simp; omega
        by_cases zx : X = 0
        · subst zx
          rw [dir_nn (by omega) (by omega), Int.neg_zero] at E
          clear z
          obtain ⟨F, hF⟩ : ∃ F, firstF (0) (-Y) = F := ⟨_, rfl⟩
          have FI := firstF_in (x := 0) (y := -Y) (by omega) (by omega)
          rw [hF] at FI E
          have HF := Lib.hid (show towF (0) (-Y) = F by rw [tow_pp (by omega) (by omega) (by omega) (by omega) (by omega), hF])
          have HE := Lib.hid (show 2147483648 + F = towF x y by rw [E]; first | done | omega)
          clear hF E
          go_enter Try.func17, Try.ntmps17
          go_wp2_with fail
          refine (TowP_any (0) (-Y) _ (by omega) (by omega) (by omega) (by omega)).mono ?_
          rw [HF.out]
          rintro e w1 ⟨rfl, hb1⟩
          have z_w1 := hb1.size
          try simp at z_w1
          have y_w1 : w.heap.size ≤ w1.heap.size := by omega
          go_wp2
          go_ret
          exact ⟨retI HE.out, by repeat (first | exact Below.refl _ _ | assumption | refine Below.setCell ?_ (by first | omega | (simp; done) | (simp; omega)) _ | refine Below.alloc ?_ (by first | omega | (simp; done) | (simp; omega)) _ | refine below_drewN ?_ _ | refine Below.drew ?_ | refine Below.trans ?_ (Below.mono (by assumption) (by first | omega | (simp; done) | (simp; omega))))⟩
        · have tx := ne_beq zx
          rw [dir_pn (by omega) (by omega)] at E
          clear z
          obtain ⟨F, hF⟩ : ∃ F, firstF (-Y) (X) = F := ⟨_, rfl⟩
          have FI := firstF_in (x := -Y) (y := X) (by omega) (by omega)
          rw [hF] at FI E
          have HF := Lib.hid (show towF (-Y) (X) = F by rw [tow_pp (by omega) (by omega) (by omega) (by omega) (by omega), hF])
          have HE := Lib.hid (show (3221225472 + F) % 4294967296 = towF x y by rw [E]; first | done | omega)
          clear hF E
          go_enter Try.func17, Try.ntmps17
          go_wp2_with fail
          refine (TowP_any (-Y) (X) _ (by omega) (by omega) (by omega) (by omega)).mono ?_
          rw [HF.out]
          rintro e w1 ⟨rfl, hb1⟩
          have z_w1 := hb1.size
          try simp at z_w1
          have y_w1 : w.heap.size ≤ w1.heap.size := by omega
          go_wp2
          go_ret
          exact ⟨retI HE.out, by repeat (first | exact Below.refl _ _ | assumption | refine Below.setCell ?_ (by first | omega | (simp; done) | (simp; omega)) _ | refine Below.alloc ?_ (by first | omega | (simp; done) | (simp; omega)) _ | refine below_drewN ?_ _ | refine Below.drew ?_ | refine Below.trans ?_ (Below.mono (by assumption) (by first | omega | (simp; done) | (simp; omega))))⟩
    · have tx : (X == 0) = false := by simp; omega
      by_cases q : 0 ≤ Y
      · rw [dir_np (by omega) q] at E
        clear z
        obtain ⟨F, hF⟩ : ∃ F, firstF (Y) (-X) = F := ⟨_, rfl⟩
        have FI := firstF_in (x := Y) (y := -X) (by omega) (by omega)
        rw [hF] at FI E
        have HF := Lib.hid (show towF (Y) (-X) = F by rw [tow_pp (by omega) (by omega) (by omega) (by omega) (by omega), hF])
        have HE := Lib.hid (show 1073741824 + F = towF x y by rw [E]; first | done | omega)
        clear hF E
        go_enter Try.func17, Try.ntmps17
        go_wp2_with fail
        refine (TowP_any (Y) (-X) _ (by omega) (by omega) (by omega) (by omega)).mono ?_
        rw [HF.out]
        rintro e w1 ⟨rfl, hb1⟩
        have z_w1 := hb1.size
        try simp at z_w1
        have y_w1 : w.heap.size ≤ w1.heap.size := by omega
        go_wp2
        go_ret
        exact ⟨retI HE.out, by repeat (first | exact Below.refl _ _ | assumption | refine Below.setCell ?_ (by first | omega | (simp; done) | (simp; omega)) _ | refine Below.alloc ?_ (by first | omega | (simp; done) | (simp; omega)) _ | refine below_drewN ?_ _ | refine Below.drew ?_ | refine Below.trans ?_ (Below.mono (by assumption) (by first | omega | (simp; done) | (simp; omega))))⟩
      · rw [dir_nn (by omega) (by omega)] at E
        clear z
        obtain ⟨F, hF⟩ : ∃ F, firstF (-X) (-Y) = F := ⟨_, rfl⟩
        have FI := firstF_in (x := -X) (y := -Y) (by omega) (by omega)
        rw [hF] at FI E
        have HF := Lib.hid (show towF (-X) (-Y) = F by rw [tow_pp (by omega) (by omega) (by omega) (by omega) (by omega), hF])
        have HE := Lib.hid (show 2147483648 + F = towF x y by rw [E]; first | done | omega)
        clear hF E
        go_enter Try.func17, Try.ntmps17
        go_wp2_with fail
        refine (TowP_any (-X) (-Y) _ (by omega) (by omega) (by omega) (by omega)).mono ?_
        rw [HF.out]
        rintro e w1 ⟨rfl, hb1⟩
        have z_w1 := hb1.size
        try simp at z_w1
        have y_w1 : w.heap.size ≤ w1.heap.size := by omega
        go_wp2
        go_ret
        exact ⟨retI HE.out, by repeat (first | exact Below.refl _ _ | assumption | refine Below.setCell ?_ (by first | omega | (simp; done) | (simp; omega)) _ | refine Below.alloc ?_ (by first | omega | (simp; done) | (simp; omega)) _ | refine below_drewN ?_ _ | refine Below.drew ?_ | refine Below.trans ?_ (Below.mono (by assumption) (by first | omega | (simp; done) | (simp; omega))))⟩
end Go.Proofs.Ytjjfeehfgikobaa
