/- Contracts with a nil receiver: fx's Add, Div; a length, a direction; vec's Add, Scale, Unit. -/
import Derived.Test.YtinahmhiopgcnaaGp
import Derived.Test.YtinahmhiopgcnaaBx
import Derived.Test.YtinahmhiopgcnaaJf
import Derived.Test.YtinahmhiopgcnaaBm
namespace Go.Proofs.Ytinahmhiopgcnaa
open Go.RowKit
set_option linter.unusedVariables false
set_option linter.unusedSimpArgs false

set_option maxHeartbeats 1000000 in
theorem fxAdd_nil (x y : Int) (w : World) (x0 : -9223372036854775808 ≤ x) (x1 : x ≤ 9223372036854775807) (y0 : -9223372036854775808 ≤ y) (y1 : y ≤ 9223372036854775807) :
    Calls Try.prog 37 #[.pointer none, .int .i64 x, .int .i64 y] w fun e w' => e = .returned (.int .i64 (addF x y)) ∧ Below w.heap.size w w' := by
  have I := Lib.hid (add_128 x0 x1 y0 y1)
  have hmf : ∀ (fn : Fn) (first cap : Array Value) (w : World), (Instr.makeFunc fn first cap).run Try.prog w = .ok (.func fn first cap) w := fun _ _ _ _ => rfl
  go_enter Try.func37, Try.ntmps37
  go_wp2_with fail
  refine (Of_any x _ x0 x1).mono ?_
  rintro e w1 ⟨rfl, hb1⟩
  obtain ⟨hc_w1, hf_w1⟩ := bcell hb1
  have z_w1 := hb1.size
  try simp at z_w1
  have y_w1 : w.heap.size ≤ w1.heap.size := by omega
  go_wp2_with fail
  refine (Of_any y _ y0 y1).mono ?_
  rintro e w2 ⟨rfl, hb2⟩
  obtain ⟨hc_w2, hf_w2⟩ := bcell hb2
  have z_w2 := hb2.size
  try simp at z_w2
  have y_w2 : w.heap.size ≤ w2.heap.size := by omega
  go_wp2_with fail
  refine (Add_yes x y (x + y) _ I.out.2.2.1 I.out.2.2.2.1 rfl I.out.1).mono ?_
  rintro e w3 ⟨rfl, hb3⟩
  obtain ⟨hc_w3, hf_w3⟩ := bcell hb3
  have z_w3 := hb3.size
  try simp at z_w3
  have y_w3 : w.heap.size ≤ w3.heap.size := by omega
  have B3 : Below w.heap.size w w3 := by repeat (first | exact Below.refl _ _ | assumption | refine Below.setCell ?_ (by first | omega | (simp; done) | (simp; omega)) _ | refine Below.alloc ?_ (by first | omega | (simp; done) | (simp; omega)) _ | refine below_drewN ?_ _ | refine Below.drew ?_ | refine Below.trans ?_ (Below.mono (by assumption) (by first | omega | (simp; done) | (simp; omega))))
  have HB3 := Lib.hid B3
  clear B3 hb1 hb2 hb3 hc_w1 hf_w1 hc_w2 hf_w2 hc_w3 hf_w3
  go_wp2_with fail
  refine (narrow_nil _ _ I.out.1).mono ?_
  rintro e w9 ⟨rfl, hb9⟩
  go_wp2
  go_ret
  exact ⟨rfl, (show Below w.heap.size w _ by have := HB3.out; repeat (first | exact Below.refl _ _ | assumption | refine Below.setCell ?_ (by first | omega | (simp; done) | (simp; omega)) _ | refine Below.alloc ?_ (by first | omega | (simp; done) | (simp; omega)) _ | refine below_drewN ?_ _ | refine Below.drew ?_ | refine Below.trans ?_ (Below.mono (by assumption) (by first | omega | (simp; done) | (simp; omega))))).trans (hb9.mono (by simp; omega))⟩
theorem fxDiv_nil (x y : Int) (w : World) (x0 : -9223372036854775808 ≤ x) (x1 : x ≤ 9223372036854775807) (y0 : -9223372036854775808 ≤ y) (y1 : y ≤ 9223372036854775807) :
    Calls Try.prog 65 #[.pointer none, .int .i64 x, .int .i64 y] w fun e w' => e = .returned (.int .i64 (divF x y)) ∧ Below w.heap.size w w' := by
  have I := Lib.hid (mul_128 x0 x1 (show (-9223372036854775808 : Int) ≤ 4294967296 by omega) (by omega))
  have hmf : ∀ (fn : Fn) (first cap : Array Value) (w : World), (Instr.makeFunc fn first cap).run Try.prog w = .ok (.func fn first cap) w := fun _ _ _ _ => rfl
  go_enter Try.func65, Try.ntmps65
  go_wp2_with fail
  refine (Mul_any x 4294967296 _ x0 x1 (by omega) (by omega)).mono ?_
  rintro e w1 ⟨rfl, hb1⟩
  obtain ⟨hc_w1, hf_w1⟩ := bcell hb1
  have z_w1 := hb1.size
  try simp at z_w1
  have y_w1 : w.heap.size ≤ w1.heap.size := by omega
  go_wp2_with fail
  refine (quotient_nil (x * 4294967296) y _ I.out y0 y1).mono ?_
  rintro e w9 ⟨rfl, hb9⟩
  go_wp2
  go_ret
  exact ⟨rfl, hb1.trans (hb9.mono hb1.size)⟩
/-- a length that fits -/
theorem length_nil (a : Option Addr) (len cap : Nat) (zs : List Int) (w : World) (c : sqs zs < 85070591730234615865843651857942052864) (I : Ints w .i64 a len cap zs) :
    Calls Try.prog 89 #[.pointer none, .slice a len cap] w fun e w' => e = .returned (.int .i64 (lenF (sqs zs))) ∧ Below w.heap.size w w' := by
  have S0 := sqs_nn zs
  have HI := Lib.hid I
  have Q := Lib.hid (squares_any a len cap zs)
  obtain ⟨S, hS⟩ : ∃ S, sqs zs = S := ⟨_, rfl⟩
  rw [hS] at S0 Q c ⊢
  clear I hS
  have L := len_fit c
  have i128 : In128 S := by unfold In128; omega
  have CL := Lib.hid (show clipW S = S ∧ fitW S = true from ⟨by unfold clipW; rw [if_pos i128], by unfold fitW; rw [decide_eq_true_iff]; exact i128⟩)
  have r0 := rootI_nn S
  have r1 := L.1
  have E := Lib.hid L.2
  have I := Lib.hid i128
  clear L i128 c
  go_enter Try.func89, Try.ntmps89
  go_wp2_with fail
  refine (Q.out _ HI.out).mono ?_
  rw [CL.out.1, CL.out.2]
  rintro e w1 ⟨rfl, hb1⟩
  obtain ⟨hc_w1, hf_w1⟩ := bcell hb1
  have z_w1 := hb1.size
  try simp at z_w1
  have y_w1 : w.heap.size ≤ w1.heap.size := by omega
  go_wp2_with fail
  refine (Root_any _ _ S _ (isW_of I.out)).mono ?_
  rintro e w2 ⟨rfl, hb2⟩
  obtain ⟨hc_w2, hf_w2⟩ := bcell hb2
  have z_w2 := hb2.size
  try simp at z_w2
  have y_w2 : w.heap.size ≤ w2.heap.size := by omega
  go_wp2
  go_ret
  exact ⟨retI E.out.1.symm, by repeat (first | exact Below.refl _ _ | assumption | refine Below.setCell ?_ (by first | omega | (simp; done) | (simp; omega)) _ | refine Below.alloc ?_ (by first | omega | (simp; done) | (simp; omega)) _ | refine below_drewN ?_ _ | refine Below.drew ?_ | refine Below.trans ?_ (Below.mono (by assumption) (by first | omega | (simp; done) | (simp; omega))))⟩
theorem Len3_nil (x y z : Int) (w : World) (c : x * x + y * y + z * z < 85070591730234615865843651857942052864) (x0 : -9223372036854775808 ≤ x) (x1 : x ≤ 9223372036854775807) (y0 : -9223372036854775808 ≤ y) (y1 : y ≤ 9223372036854775807) (z0 : -9223372036854775808 ≤ z) (z1 : z ≤ 9223372036854775807) :
    Calls Try.prog 85 #[.pointer none, .int .i64 x, .int .i64 y, .int .i64 z] w fun e w' => e = .returned (.int .i64 (lenF (x * x + y * y + z * z))) ∧ Below w.heap.size w w' := by
  have e1 : sqs [x, y, z] = x * x + y * y + z * z := by simp [sqs]; omega
  have C := Lib.hid (show sqs [x, y, z] < 85070591730234615865843651857942052864 by rw [e1]; exact c)
  have E := Lib.hid e1
  clear e1 c
  go_enter Try.func85, Try.ntmps85
  go_wp2_with fail
  refine (length_nil _ 3 3 [x, y, z] _ C.out (ints_new3 w _ x0 x1 y0 y1 z0 z1)).mono ?_
  rw [E.out]
  rintro e w1 ⟨rfl, h⟩
  go_wp2
  go_ret
  exact ⟨rfl, ((Below.refl _ _).alloc (Nat.le_refl _) _).trans (h.mono (by simp))⟩
theorem Unit3_nil (x y z n : Int) (w : World) (c : x * x + y * y + z * z < 85070591730234615865843651857942052864) (hn : lenF (x * x + y * y + z * z) = n) (n0 : n ≠ 0) (x0 : -9223372036854775808 ≤ x) (x1 : x ≤ 9223372036854775807) (y0 : -9223372036854775808 ≤ y) (y1 : y ≤ 9223372036854775807) (z0 : -9223372036854775808 ≤ z) (z1 : z ≤ 9223372036854775807) :
    Calls Try.prog 73 #[.pointer none, .int .i64 x, .int .i64 y, .int .i64 z] w fun e w' => e = .returned (.tuple #[.int .i64 (divF x n), .int .i64 (divF y n), .int .i64 (divF z n), .bool true]) ∧ Below w.heap.size w w' := by
  have N := Lib.hid (lenF_in (x * x + y * y + z * z))
  have E := Lib.hid hn
  have C := Lib.hid c
  have t : (n == 0) = false := by simp; exact n0
  clear c hn n0
  go_enter Try.func73, Try.ntmps73
  go_wp2_with fail
  refine (Len3_nil x y z _ C.out x0 x1 y0 y1 z0 z1).mono ?_
  rw [E.out]
  rintro e w1 ⟨rfl, h1⟩
  have H1 := Lib.hid h1
  clear h1
  go_wp2_with fail
  refine (fxDiv_nil x n _ x0 x1 (by have := N.out; rw [E.out] at this; omega) (by have := N.out; rw [E.out] at this; omega)).mono ?_
  rintro e w2 ⟨rfl, h2⟩
  have H2 := Lib.hid (H1.out.trans (h2.mono H1.out.size))
  clear h2
  go_wp2_with fail
  refine (fxDiv_nil y n _ y0 y1 (by have := N.out; rw [E.out] at this; omega) (by have := N.out; rw [E.out] at this; omega)).mono ?_
  rintro e w3 ⟨rfl, h3⟩
  have H3 := Lib.hid (H2.out.trans (h3.mono H2.out.size))
  clear h3
  go_wp2_with fail
  refine (fxDiv_nil z n _ z0 z1 (by have := N.out; rw [E.out] at this; omega) (by have := N.out; rw [E.out] at this; omega)).mono ?_
  rintro e w4 ⟨rfl, h4⟩
  go_wp2
  exact bodyPost_ret (v := .tuple #[.int .i64 (divF x n), .int .i64 (divF y n), .int .i64 (divF z n), .bool true]) (by simp [results, Try.results73, go_sem]) rfl ⟨rfl, H3.out.trans (h4.mono H3.out.size)⟩
/-- a nil receiver in a box of its own -/
structure NB (W : World) (n : Nat) : Prop where
  c : W.cell? ⟨n, 0, none⟩ = some (.pointer none)
  lt : n < W.heap.size
theorem NB.new (w : World) (t : TypeId) : NB (w.alloc (.cells #[.pointer none] t)) w.heap.size := ⟨World.cell?_alloc_new w _ t 0, by simp⟩
theorem NB.below {B : Nat} {w w' : World} {n : Nat} (p : NB w n) (h : Below B w w') (hn : n < B) : NB w' n := ⟨(h.cell (p := ⟨n, 0, none⟩) hn).trans p.c, by have := h.size; have := p.lt; omega⟩
theorem NB.alloc {w : World} {n : Nat} (p : NB w n) (o : Obj) : NB (w.alloc o) n := p.below ((Below.refl w.heap.size w).alloc (Nat.le_refl _) o) p.lt
theorem NB.drew {w : World} {n : Nat} (p : NB w n) : NB w.drew n := ⟨p.c, p.lt⟩
theorem below_put3 {B r : Nat} {w W : World} (t : Below B w W) (h : B ≤ r) (u v z : Value) : Below B w (((W.setCell ⟨r, 0, none⟩ u).setCell ⟨r, 1, none⟩ v).setCell ⟨r, 2, none⟩ z) :=
  ((t.setCell (p := ⟨r, 0, none⟩) h u).setCell (p := ⟨r, 1, none⟩) h v).setCell (p := ⟨r, 2, none⟩) h z
theorem cAdd_nil (x y : Int) (n : Nat) (w : World) (x0 : -9223372036854775808 ≤ x) (x1 : x ≤ 9223372036854775807) (y0 : -9223372036854775808 ≤ y) (y1 : y ≤ 9223372036854775807) (P : NB w n) :
    Calls Try.prog 47 #[.int .i64 x, .int .i64 y, .pointer (some ⟨n, 0, none⟩)] w fun e w' => e = .returned (.int .i64 (addF x y)) ∧ Below w.heap.size w w' := by
  have pc := P.c
  go_enter Try.func47, Try.ntmps47
  go_wp2_with fail
  refine (fxAdd_nil x y _ x0 x1 y0 y1).mono ?_
  rintro e w9 ⟨rfl, hb9⟩
  go_wp2
  go_ret
  exact ⟨rfl, hb9⟩
theorem cScale_nil (x y : Int) (n j : Nat) (w : World) (x0 : -9223372036854775808 ≤ x) (x1 : x ≤ 9223372036854775807) (y0 : -9223372036854775808 ≤ y) (y1 : y ≤ 9223372036854775807) (P : NB w n) (I : IB w j y) :
    Calls Try.prog 49 #[.int .i64 x, .pointer (some ⟨n, 0, none⟩), .pointer (some ⟨j, 0, none⟩)] w fun e w' => e = .returned (.int .i64 (mulF x y)) ∧ Below w.heap.size w w' := by
  have ic := I.c
  have pc := P.c
  go_enter Try.func49, Try.ntmps49
  go_wp2_with fail
  refine (fxMul_nil x y _ x0 x1 y0 y1).mono ?_
  rintro e w9 ⟨rfl, hb9⟩
  go_wp2
  go_ret
  exact ⟨rfl, hb9⟩
set_option maxRecDepth 100000 in
set_option maxHeartbeats 4000000 in
theorem pwAdd_nil (a1 a2 a3 b1 b2 b3 : Int) (n : Nat) (w : World) (ha : In3 a1 a2 a3) (hb : In3 b1 b2 b3) (P : NB w n) :
    Calls Try.prog 46 #[.agg #[.int .i64 a1, .int .i64 a2, .int .i64 a3], .agg #[.int .i64 b1, .int .i64 b2, .int .i64 b3], .func (.func 47) #[] #[.pointer (some ⟨n, 0, none⟩)]] w fun e w' => e = .returned (.agg #[.int .i64 (addF a1 b1), .int .i64 (addF a2 b2), .int .i64 (addF a3 b3)]) ∧ Below w.heap.size w w' := by
  have HA := Lib.hid ha
  have HB := Lib.hid hb
  have P0 := Lib.hid P
  clear ha hb P
  go_enter Try.func46, Try.ntmps46
  go_wp2_with fail
  have A0 := Lib.hid ((VW.new w w.heap.size a1 a2 a3 24 rfl).alloc (.cells #[.int .i64 b1, .int .i64 b2, .int .i64 b3] 24))
  have B0 := Lib.hid (VW.new (w.alloc (.cells #[.int .i64 a1, .int .i64 a2, .int .i64 a3] 24)) (w.heap.size + 1) b1 b2 b3 24 (by simp))
  have L0 : Below w.heap.size w ((w.alloc (.cells #[.int .i64 a1, .int .i64 a2, .int .i64 a3] 24)).alloc (.cells #[.int .i64 b1, .int .i64 b2, .int .i64 b3] 24)) := by repeat (first | exact Below.refl _ _ | assumption | refine Below.setCell ?_ (by first | omega | (simp; done) | (simp; omega)) _ | refine Below.alloc ?_ (by first | omega | (simp; done) | (simp; omega)) _ | refine below_drewN ?_ _ | refine Below.drew ?_ | refine Below.trans ?_ (Below.mono (by assumption) (by first | omega | (simp; done) | (simp; omega))))
  have A0 := Lib.hid (A0.out.alloc (.cells #[.int .i64 0, .int .i64 0, .int .i64 0] 24))
  have B0 := Lib.hid (B0.out.alloc (.cells #[.int .i64 0, .int .i64 0, .int .i64 0] 24))
  have R0 := Lib.hid (VW.new ((w.alloc (.cells #[.int .i64 a1, .int .i64 a2, .int .i64 a3] 24)).alloc (.cells #[.int .i64 b1, .int .i64 b2, .int .i64 b3] 24)) (w.heap.size + 1 + 1) 0 0 0 24 (by simp))
  have L0 := L0.alloc (by simp; omega) (.cells #[.int .i64 0, .int .i64 0, .int .i64 0] 24)
  generalize ((w.alloc (.cells #[.int .i64 a1, .int .i64 a2, .int .i64 a3] 24)).alloc (.cells #[.int .i64 b1, .int .i64 b2, .int .i64 b3] 24)).alloc (.cells #[.int .i64 0, .int .i64 0, .int .i64 0] 24) = W0 at *
  have P0 := Lib.hid ((P0.out.below L0 P0.out.lt).drew)
  have G0 := Lib.hid L0.drew
  have A0 := Lib.hid A0.out.drew
  have B0 := Lib.hid B0.out.drew
  have R0 := Lib.hid R0.out.drew
  clear L0
  refine wp_region_held_drew (S := fun W => (W.cell? ⟨w.heap.size, 0, none⟩ = some (.int .i64 (a1)) ∧ W.cell? ⟨w.heap.size, 1, none⟩ = some (.int .i64 (a2)) ∧ W.cell? ⟨w.heap.size, 2, none⟩ = some (.int .i64 (a3))) ∧ (W.cell? ⟨w.heap.size + 1, 0, none⟩ = some (.int .i64 (b1)) ∧ W.cell? ⟨w.heap.size + 1, 1, none⟩ = some (.int .i64 (b2)) ∧ W.cell? ⟨w.heap.size + 1, 2, none⟩ = some (.int .i64 (b3)))) (by kernel_rfl) ⟨A0.out.held, B0.out.held⟩ (fun hHeld => ?_)
  refine wpAnyH_takeD 0 7 (v := ?_) (by kernel_rfl) (by kernel_rfl) (by kernel_rfl) (by kernel_rfl) (by rfl) (fun _ _ _ h => h) ?_ hHeld ?_
  rotate_left 1
  (intro o ho W hSw; simp only [List.getElem?_toArray, List.getElem?_cons_succ, List.getElem?_cons_zero, Option.some.injEq] at ho; subst ho; (try dsimp only at hSw); go_simp; try with_reducible rfl)
  (try simp only [Act.put, List.setIfInBounds_toArray, List.set_cons_zero, List.set_cons_succ])
  refine wpAnyH_takeD 1 8 (v := ?_) (by kernel_rfl) (by kernel_rfl) (by kernel_rfl) (by kernel_rfl) (by rfl) (fun _ _ _ h => h) ?_ hHeld ?_
  rotate_left 1
  (intro o ho W hSw; simp only [List.getElem?_toArray, List.getElem?_cons_succ, List.getElem?_cons_zero, Option.some.injEq] at ho; subst ho; (try dsimp only at hSw); go_simp; try with_reducible rfl)
  (try simp only [Act.put, List.setIfInBounds_toArray, List.set_cons_zero, List.set_cons_succ])
  refine wpAnyH_takeD 2 9 (v := ?_) (by kernel_rfl) (by kernel_rfl) (by kernel_rfl) (by kernel_rfl) (by rfl) (fun _ _ _ h => h) ?_ hHeld ?_
  rotate_left 1
  (intro o ho W hSw; simp only [List.getElem?_toArray, List.getElem?_cons_succ, List.getElem?_cons_zero, Option.some.injEq] at ho; subst ho; (try dsimp only at hSw); go_simp; try with_reducible rfl)
  (try simp only [Act.put, List.setIfInBounds_toArray, List.set_cons_zero, List.set_cons_succ])
  refine wpAnyH_takeD 3 10 (v := ?_) (by kernel_rfl) (by kernel_rfl) (by kernel_rfl) (by kernel_rfl) (by rfl) (fun _ _ _ h => h) ?_ hHeld ?_
  rotate_left 1
  (intro o ho W hSw; simp only [List.getElem?_toArray, List.getElem?_cons_succ, List.getElem?_cons_zero, Option.some.injEq] at ho; subst ho; (try dsimp only at hSw); go_simp; try with_reducible rfl)
  (try simp only [Act.put, List.setIfInBounds_toArray, List.set_cons_zero, List.set_cons_succ])
  refine wpAnyH_takeD 4 11 (v := ?_) (by kernel_rfl) (by kernel_rfl) (by kernel_rfl) (by kernel_rfl) (by rfl) (fun _ _ _ h => h) ?_ hHeld ?_
  rotate_left 1
  (intro o ho W hSw; simp only [List.getElem?_toArray, List.getElem?_cons_succ, List.getElem?_cons_zero, Option.some.injEq] at ho; subst ho; (try dsimp only at hSw); go_simp; try with_reducible rfl)
  (try simp only [Act.put, List.setIfInBounds_toArray, List.set_cons_zero, List.set_cons_succ])
  refine wpAnyH_takeD 6 13 (v := ?_) (by kernel_rfl) (by kernel_rfl) (by kernel_rfl) (by kernel_rfl) (by rfl) (fun _ _ _ h => h) ?_ hHeld ?_
  rotate_left 1
  (intro o ho W hSw; simp only [List.getElem?_toArray, List.getElem?_cons_succ, List.getElem?_cons_zero, Option.some.injEq] at ho; subst ho; (try dsimp only at hSw); go_simp; try with_reducible rfl)
  (try simp only [Act.put, List.setIfInBounds_toArray, List.set_cons_zero, List.set_cons_succ])
  refine wpAnyH_takeD 7 14 (v := ?_) (by kernel_rfl) (by kernel_rfl) (by kernel_rfl) (by kernel_rfl) (by rfl) (fun _ _ _ h => h) ?_ hHeld ?_
  rotate_left 1
  (intro o ho W hSw; simp only [List.getElem?_toArray, List.getElem?_cons_succ, List.getElem?_cons_zero, Option.some.injEq] at ho; subst ho; (try dsimp only at hSw); go_simp; try with_reducible rfl)
  (try simp only [Act.put, List.setIfInBounds_toArray, List.set_cons_zero, List.set_cons_succ])
  refine wpAnyH_takeD 8 15 (v := ?_) (by kernel_rfl) (by kernel_rfl) (by kernel_rfl) (by kernel_rfl) (by rfl) (fun _ _ _ h => h) ?_ hHeld ?_
  rotate_left 1
  (intro o ho W hSw; simp only [List.getElem?_toArray, List.getElem?_cons_succ, List.getElem?_cons_zero, Option.some.injEq] at ho; subst ho; (try dsimp only at hSw); go_simp; try with_reducible rfl)
  (try simp only [Act.put, List.setIfInBounds_toArray, List.set_cons_zero, List.set_cons_succ])
  refine wpAnyH_takeD 9 16 (v := ?_) (by kernel_rfl) (by kernel_rfl) (by kernel_rfl) (by kernel_rfl) (by rfl) (fun _ _ _ h => h) ?_ hHeld ?_
  rotate_left 1
  (intro o ho W hSw; simp only [List.getElem?_toArray, List.getElem?_cons_succ, List.getElem?_cons_zero, Option.some.injEq] at ho; subst ho; (try dsimp only at hSw); go_simp; try with_reducible rfl)
  (try simp only [Act.put, List.setIfInBounds_toArray, List.set_cons_zero, List.set_cons_succ])
  refine wpAnyH_takeD 10 17 (v := ?_) (by kernel_rfl) (by kernel_rfl) (by kernel_rfl) (by kernel_rfl) (by rfl) (fun _ _ _ h => h) ?_ hHeld ?_
  rotate_left 1
  (intro o ho W hSw; simp only [List.getElem?_toArray, List.getElem?_cons_succ, List.getElem?_cons_zero, Option.some.injEq] at ho; subst ho; (try dsimp only at hSw); go_simp; try with_reducible rfl)
  (try simp only [Act.put, List.setIfInBounds_toArray, List.set_cons_zero, List.set_cons_succ])
  refine wpAnyH_takeD 12 19 (v := ?_) (by kernel_rfl) (by kernel_rfl) (by kernel_rfl) (by kernel_rfl) (by rfl) (fun _ _ _ h => h) ?_ hHeld ?_
  rotate_left 1
  (intro o ho W hSw; simp only [List.getElem?_toArray, List.getElem?_cons_succ, List.getElem?_cons_zero, Option.some.injEq] at ho; subst ho; (try dsimp only at hSw); go_simp; try with_reducible rfl)
  (try simp only [Act.put, List.setIfInBounds_toArray, List.set_cons_zero, List.set_cons_succ])
  refine wpAnyH_takeD 13 20 (v := ?_) (by kernel_rfl) (by kernel_rfl) (by kernel_rfl) (by kernel_rfl) (by rfl) (fun _ _ _ h => h) ?_ hHeld ?_
  rotate_left 1
  (intro o ho W hSw; simp only [List.getElem?_toArray, List.getElem?_cons_succ, List.getElem?_cons_zero, Option.some.injEq] at ho; subst ho; (try dsimp only at hSw); go_simp; try with_reducible rfl)
  (try simp only [Act.put, List.setIfInBounds_toArray, List.set_cons_zero, List.set_cons_succ])
  refine wpAnyH_takeD 14 21 (v := ?_) (by kernel_rfl) (by kernel_rfl) (by kernel_rfl) (by kernel_rfl) (by rfl) (fun _ _ _ h => h) ?_ hHeld ?_
  rotate_left 1
  (intro o ho W hSw; simp only [List.getElem?_toArray, List.getElem?_cons_succ, List.getElem?_cons_zero, Option.some.injEq] at ho; subst ho; (try dsimp only at hSw); go_simp; try with_reducible rfl)
  (try simp only [Act.put, List.setIfInBounds_toArray, List.set_cons_zero, List.set_cons_succ])
  refine wpAnyH_takeD 15 22 (v := ?_) (by kernel_rfl) (by kernel_rfl) (by kernel_rfl) (by kernel_rfl) (by rfl) (fun _ _ _ h => h) ?_ hHeld ?_
  rotate_left 1
  (intro o ho W hSw; simp only [List.getElem?_toArray, List.getElem?_cons_succ, List.getElem?_cons_zero, Option.some.injEq] at ho; subst ho; (try dsimp only at hSw); go_simp; try with_reducible rfl)
  (try simp only [Act.put, List.setIfInBounds_toArray, List.set_cons_zero, List.set_cons_succ])
  refine wpAnyH_takeD 16 23 (v := ?_) (by kernel_rfl) (by kernel_rfl) (by kernel_rfl) (by kernel_rfl) (by rfl) (fun _ _ _ h => h) ?_ hHeld ?_
  rotate_left 1
  (intro o ho W hSw; simp only [List.getElem?_toArray, List.getElem?_cons_succ, List.getElem?_cons_zero, Option.some.injEq] at ho; subst ho; (try dsimp only at hSw); go_simp; try with_reducible rfl)
  (try simp only [Act.put, List.setIfInBounds_toArray, List.set_cons_zero, List.set_cons_succ])
  refine wpAnyH_onlyD 5 (by kernel_rfl) (fun o ho K hK => ?_) (by kernel_rfl)
  simp only [List.getElem?_toArray, List.getElem?_cons_succ, List.getElem?_cons_zero, Option.some.injEq] at ho
  subst ho
  go_simp
  refine (cAdd_nil a1 b1 n _ HA.out.x0 HA.out.x1 HB.out.x0 HB.out.x1 P0.out).mono ?_
  rintro e w1 ⟨rfl, h⟩
  have G1 := Lib.hid (G0.out.trans (h.mono G0.out.size))
  have A1 := Lib.hid (A0.out.below h A0.out.lt)
  (try have B1 := Lib.hid (B0.out.below h B0.out.lt))
  (try have R1 := Lib.hid (R0.out.below h R0.out.lt))
  (try have P1 := Lib.hid (P0.out.below h P0.out.lt))
  (try have I1 := Lib.hid (I0.out.below h I0.out.lt))
  go_wp2_with fail
  refine hK.out _ _ (⟨A1.out.held, B1.out.held⟩) ?_
  clear hK K hHeld
  intro hHeld
  clear h G0 A0
  (try clear B0)
  (try clear R0)
  (try clear P0)
  (try clear I0)
  refine wpAnyH_onlyD 11 (by kernel_rfl) (fun o ho K hK => ?_) (by kernel_rfl)
  simp only [List.getElem?_toArray, List.getElem?_cons_succ, List.getElem?_cons_zero, Option.some.injEq] at ho
  subst ho
  go_simp
  refine (cAdd_nil a2 b2 n _ HA.out.y0 HA.out.y1 HB.out.y0 HB.out.y1 P1.out).mono ?_
  rintro e w2 ⟨rfl, h⟩
  have G2 := Lib.hid (G1.out.trans (h.mono G1.out.size))
  have A2 := Lib.hid (A1.out.below h A1.out.lt)
  (try have B2 := Lib.hid (B1.out.below h B1.out.lt))
  (try have R2 := Lib.hid (R1.out.below h R1.out.lt))
  (try have P2 := Lib.hid (P1.out.below h P1.out.lt))
  (try have I2 := Lib.hid (I1.out.below h I1.out.lt))
  go_wp2_with fail
  refine hK.out _ _ (⟨A2.out.held, B2.out.held⟩) ?_
  clear hK K hHeld
  intro hHeld
  clear h G1 A1
  (try clear B1)
  (try clear R1)
  (try clear P1)
  (try clear I1)
  refine wpAnyH_onlyD 17 (by kernel_rfl) (fun o ho K hK => ?_) (by kernel_rfl)
  simp only [List.getElem?_toArray, List.getElem?_cons_succ, List.getElem?_cons_zero, Option.some.injEq] at ho
  subst ho
  go_simp
  refine (cAdd_nil a3 b3 n _ HA.out.z0 HA.out.z1 HB.out.z0 HB.out.z1 P2.out).mono ?_
  rintro e w3 ⟨rfl, h⟩
  have G3 := Lib.hid (G2.out.trans (h.mono G2.out.size))
  have A3 := Lib.hid (A2.out.below h A2.out.lt)
  (try have B3 := Lib.hid (B2.out.below h B2.out.lt))
  (try have R3 := Lib.hid (R2.out.below h R2.out.lt))
  (try have P3 := Lib.hid (P2.out.below h P2.out.lt))
  (try have I3 := Lib.hid (I2.out.below h I2.out.lt))
  go_wp2_with fail
  refine hK.out _ _ (⟨A3.out.held, B3.out.held⟩) ?_
  clear hK K hHeld
  intro hHeld
  clear h G2 A2
  (try clear B2)
  (try clear R2)
  (try clear P2)
  (try clear I2)
  refine wpAnyH_takeD 18 25 (v := ?_) (by kernel_rfl) (by kernel_rfl) (by kernel_rfl) (by kernel_rfl) (by rfl) (fun _ _ _ h => h) ?_ hHeld ?_
  rotate_left 1
  (intro o ho W hSw; simp only [List.getElem?_toArray, List.getElem?_cons_succ, List.getElem?_cons_zero, Option.some.injEq] at ho; subst ho; (try dsimp only at hSw); go_simp; try with_reducible rfl)
  (try simp only [Act.put, List.setIfInBounds_toArray, List.set_cons_zero, List.set_cons_succ])
  have r0 := R3.out.c0
  have r1 := R3.out.c1
  have r2 := R3.out.c2
  have rf := R3.out.f
  refine wpAnyH_onlyD 19 (by kernel_rfl) (fun o ho K hK => ?_) (by kernel_rfl)
  simp only [List.getElem?_toArray, List.getElem?_cons_succ, List.getElem?_cons_zero, Option.some.injEq] at ho
  subst ho
  go_simp
  refine hK.out _ _ (⟨(((A3.out.far (by omega) _ _).far (by omega) _ _).far (by omega) _ _).held, (((B3.out.far (by omega) _ _).far (by omega) _ _).far (by omega) _ _).held⟩) ?_
  clear hK K hHeld
  intro hHeld
  refine wpAnyH_done (by kernel_rfl) ?_ _
  go_wp2
  exact bodyPost_ret (v := .agg #[.int .i64 (addF a1 b1), .int .i64 (addF a2 b2), .int .i64 (addF a3 b3)]) (by simp [results, Try.results46, go_sem, r0, r1, r2]) rfl ⟨rfl, below_put3 G3.out (by omega) _ _ _⟩
set_option maxRecDepth 100000 in
set_option maxHeartbeats 4000000 in
theorem eaScale_nil (a1 a2 a3 s : Int) (n j : Nat) (w : World) (ha : In3 a1 a2 a3) (s0 : -9223372036854775808 ≤ s) (s1 : s ≤ 9223372036854775807) (P : NB w n) (I : IB w j s) :
    Calls Try.prog 48 #[.agg #[.int .i64 a1, .int .i64 a2, .int .i64 a3], .func (.func 49) #[] #[.pointer (some ⟨n, 0, none⟩), .pointer (some ⟨j, 0, none⟩)]] w fun e w' => e = .returned (.agg #[.int .i64 (mulF a1 s), .int .i64 (mulF a2 s), .int .i64 (mulF a3 s)]) ∧ Below w.heap.size w w' := by
  have I0 := Lib.hid I
  have HA := Lib.hid ha
  have P0 := Lib.hid P
  clear ha P I
  go_enter Try.func48, Try.ntmps48
  go_wp2_with fail
  have A0 := Lib.hid ((VW.new w w.heap.size a1 a2 a3 24 rfl).alloc (.cells #[.int .i64 0, .int .i64 0, .int .i64 0] 24))
  have R0 := Lib.hid (VW.new (w.alloc (.cells #[.int .i64 a1, .int .i64 a2, .int .i64 a3] 24)) (w.heap.size + 1) 0 0 0 24 (by simp))
  have L0 : Below w.heap.size w ((w.alloc (.cells #[.int .i64 a1, .int .i64 a2, .int .i64 a3] 24)).alloc (.cells #[.int .i64 0, .int .i64 0, .int .i64 0] 24)) := by repeat (first | exact Below.refl _ _ | assumption | refine Below.setCell ?_ (by first | omega | (simp; done) | (simp; omega)) _ | refine Below.alloc ?_ (by first | omega | (simp; done) | (simp; omega)) _ | refine below_drewN ?_ _ | refine Below.drew ?_ | refine Below.trans ?_ (Below.mono (by assumption) (by first | omega | (simp; done) | (simp; omega))))
  generalize (w.alloc (.cells #[.int .i64 a1, .int .i64 a2, .int .i64 a3] 24)).alloc (.cells #[.int .i64 0, .int .i64 0, .int .i64 0] 24) = W0 at *
  have P0 := Lib.hid ((P0.out.below L0 P0.out.lt).drew)
  have I0 := Lib.hid ((I0.out.below L0 I0.out.lt).drew)
  have G0 := Lib.hid L0.drew
  have A0 := Lib.hid A0.out.drew
  have R0 := Lib.hid R0.out.drew
  clear L0
  refine wp_region_held_drew (S := fun W => (W.cell? ⟨w.heap.size, 0, none⟩ = some (.int .i64 (a1)) ∧ W.cell? ⟨w.heap.size, 1, none⟩ = some (.int .i64 (a2)) ∧ W.cell? ⟨w.heap.size, 2, none⟩ = some (.int .i64 (a3)))) (by kernel_rfl) A0.out.held (fun hHeld => ?_)
  refine wpAnyH_takeD 0 5 (v := ?_) (by kernel_rfl) (by kernel_rfl) (by kernel_rfl) (by kernel_rfl) (by rfl) (fun _ _ _ h => h) ?_ hHeld ?_
  rotate_left 1
  (intro o ho W hSw; simp only [List.getElem?_toArray, List.getElem?_cons_succ, List.getElem?_cons_zero, Option.some.injEq] at ho; subst ho; (try dsimp only at hSw); go_simp; try with_reducible rfl)
  (try simp only [Act.put, List.setIfInBounds_toArray, List.set_cons_zero, List.set_cons_succ])
  refine wpAnyH_takeD 1 6 (v := ?_) (by kernel_rfl) (by kernel_rfl) (by kernel_rfl) (by kernel_rfl) (by rfl) (fun _ _ _ h => h) ?_ hHeld ?_
  rotate_left 1
  (intro o ho W hSw; simp only [List.getElem?_toArray, List.getElem?_cons_succ, List.getElem?_cons_zero, Option.some.injEq] at ho; subst ho; (try dsimp only at hSw); go_simp; try with_reducible rfl)
  (try simp only [Act.put, List.setIfInBounds_toArray, List.set_cons_zero, List.set_cons_succ])
  refine wpAnyH_takeD 2 7 (v := ?_) (by kernel_rfl) (by kernel_rfl) (by kernel_rfl) (by kernel_rfl) (by rfl) (fun _ _ _ h => h) ?_ hHeld ?_
  rotate_left 1
  (intro o ho W hSw; simp only [List.getElem?_toArray, List.getElem?_cons_succ, List.getElem?_cons_zero, Option.some.injEq] at ho; subst ho; (try dsimp only at hSw); go_simp; try with_reducible rfl)
  (try simp only [Act.put, List.setIfInBounds_toArray, List.set_cons_zero, List.set_cons_succ])
  refine wpAnyH_takeD 4 9 (v := ?_) (by kernel_rfl) (by kernel_rfl) (by kernel_rfl) (by kernel_rfl) (by rfl) (fun _ _ _ h => h) ?_ hHeld ?_
  rotate_left 1
  (intro o ho W hSw; simp only [List.getElem?_toArray, List.getElem?_cons_succ, List.getElem?_cons_zero, Option.some.injEq] at ho; subst ho; (try dsimp only at hSw); go_simp; try with_reducible rfl)
  (try simp only [Act.put, List.setIfInBounds_toArray, List.set_cons_zero, List.set_cons_succ])
  refine wpAnyH_takeD 5 10 (v := ?_) (by kernel_rfl) (by kernel_rfl) (by kernel_rfl) (by kernel_rfl) (by rfl) (fun _ _ _ h => h) ?_ hHeld ?_
  rotate_left 1
  (intro o ho W hSw; simp only [List.getElem?_toArray, List.getElem?_cons_succ, List.getElem?_cons_zero, Option.some.injEq] at ho; subst ho; (try dsimp only at hSw); go_simp; try with_reducible rfl)
  (try simp only [Act.put, List.setIfInBounds_toArray, List.set_cons_zero, List.set_cons_succ])
  refine wpAnyH_takeD 6 11 (v := ?_) (by kernel_rfl) (by kernel_rfl) (by kernel_rfl) (by kernel_rfl) (by rfl) (fun _ _ _ h => h) ?_ hHeld ?_
  rotate_left 1
  (intro o ho W hSw; simp only [List.getElem?_toArray, List.getElem?_cons_succ, List.getElem?_cons_zero, Option.some.injEq] at ho; subst ho; (try dsimp only at hSw); go_simp; try with_reducible rfl)
  (try simp only [Act.put, List.setIfInBounds_toArray, List.set_cons_zero, List.set_cons_succ])
  refine wpAnyH_takeD 8 13 (v := ?_) (by kernel_rfl) (by kernel_rfl) (by kernel_rfl) (by kernel_rfl) (by rfl) (fun _ _ _ h => h) ?_ hHeld ?_
  rotate_left 1
  (intro o ho W hSw; simp only [List.getElem?_toArray, List.getElem?_cons_succ, List.getElem?_cons_zero, Option.some.injEq] at ho; subst ho; (try dsimp only at hSw); go_simp; try with_reducible rfl)
  (try simp only [Act.put, List.setIfInBounds_toArray, List.set_cons_zero, List.set_cons_succ])
  refine wpAnyH_takeD 9 14 (v := ?_) (by kernel_rfl) (by kernel_rfl) (by kernel_rfl) (by kernel_rfl) (by rfl) (fun _ _ _ h => h) ?_ hHeld ?_
  rotate_left 1
  (intro o ho W hSw; simp only [List.getElem?_toArray, List.getElem?_cons_succ, List.getElem?_cons_zero, Option.some.injEq] at ho; subst ho; (try dsimp only at hSw); go_simp; try with_reducible rfl)
  (try simp only [Act.put, List.setIfInBounds_toArray, List.set_cons_zero, List.set_cons_succ])
  refine wpAnyH_takeD 10 15 (v := ?_) (by kernel_rfl) (by kernel_rfl) (by kernel_rfl) (by kernel_rfl) (by rfl) (fun _ _ _ h => h) ?_ hHeld ?_
  rotate_left 1
  (intro o ho W hSw; simp only [List.getElem?_toArray, List.getElem?_cons_succ, List.getElem?_cons_zero, Option.some.injEq] at ho; subst ho; (try dsimp only at hSw); go_simp; try with_reducible rfl)
  (try simp only [Act.put, List.setIfInBounds_toArray, List.set_cons_zero, List.set_cons_succ])
  refine wpAnyH_onlyD 3 (by kernel_rfl) (fun o ho K hK => ?_) (by kernel_rfl)
  simp only [List.getElem?_toArray, List.getElem?_cons_succ, List.getElem?_cons_zero, Option.some.injEq] at ho
  subst ho
  go_simp
  refine (cScale_nil a1 s n j _ HA.out.x0 HA.out.x1 s0 s1 P0.out I0.out).mono ?_
  rintro e w1 ⟨rfl, h⟩
  have G1 := Lib.hid (G0.out.trans (h.mono G0.out.size))
  have A1 := Lib.hid (A0.out.below h A0.out.lt)
  (try have B1 := Lib.hid (B0.out.below h B0.out.lt))
  (try have R1 := Lib.hid (R0.out.below h R0.out.lt))
  (try have P1 := Lib.hid (P0.out.below h P0.out.lt))
  (try have I1 := Lib.hid (I0.out.below h I0.out.lt))
  go_wp2_with fail
  refine hK.out _ _ (A1.out.held) ?_
  clear hK K hHeld
  intro hHeld
  clear h G0 A0
  (try clear B0)
  (try clear R0)
  (try clear P0)
  (try clear I0)
  refine wpAnyH_onlyD 7 (by kernel_rfl) (fun o ho K hK => ?_) (by kernel_rfl)
  simp only [List.getElem?_toArray, List.getElem?_cons_succ, List.getElem?_cons_zero, Option.some.injEq] at ho
  subst ho
  go_simp
  refine (cScale_nil a2 s n j _ HA.out.y0 HA.out.y1 s0 s1 P1.out I1.out).mono ?_
  rintro e w2 ⟨rfl, h⟩
  have G2 := Lib.hid (G1.out.trans (h.mono G1.out.size))
  have A2 := Lib.hid (A1.out.below h A1.out.lt)
  (try have B2 := Lib.hid (B1.out.below h B1.out.lt))
  (try have R2 := Lib.hid (R1.out.below h R1.out.lt))
  (try have P2 := Lib.hid (P1.out.below h P1.out.lt))
  (try have I2 := Lib.hid (I1.out.below h I1.out.lt))
  go_wp2_with fail
  refine hK.out _ _ (A2.out.held) ?_
  clear hK K hHeld
  intro hHeld
  clear h G1 A1
  (try clear B1)
  (try clear R1)
  (try clear P1)
  (try clear I1)
  refine wpAnyH_onlyD 11 (by kernel_rfl) (fun o ho K hK => ?_) (by kernel_rfl)
  simp only [List.getElem?_toArray, List.getElem?_cons_succ, List.getElem?_cons_zero, Option.some.injEq] at ho
  subst ho
  go_simp
  refine (cScale_nil a3 s n j _ HA.out.z0 HA.out.z1 s0 s1 P2.out I2.out).mono ?_
  rintro e w3 ⟨rfl, h⟩
  have G3 := Lib.hid (G2.out.trans (h.mono G2.out.size))
  have A3 := Lib.hid (A2.out.below h A2.out.lt)
  (try have B3 := Lib.hid (B2.out.below h B2.out.lt))
  (try have R3 := Lib.hid (R2.out.below h R2.out.lt))
  (try have P3 := Lib.hid (P2.out.below h P2.out.lt))
  (try have I3 := Lib.hid (I2.out.below h I2.out.lt))
  go_wp2_with fail
  refine hK.out _ _ (A3.out.held) ?_
  clear hK K hHeld
  intro hHeld
  clear h G2 A2
  (try clear B2)
  (try clear R2)
  (try clear P2)
  (try clear I2)
  refine wpAnyH_takeD 12 17 (v := ?_) (by kernel_rfl) (by kernel_rfl) (by kernel_rfl) (by kernel_rfl) (by rfl) (fun _ _ _ h => h) ?_ hHeld ?_
  rotate_left 1
  (intro o ho W hSw; simp only [List.getElem?_toArray, List.getElem?_cons_succ, List.getElem?_cons_zero, Option.some.injEq] at ho; subst ho; (try dsimp only at hSw); go_simp; try with_reducible rfl)
  (try simp only [Act.put, List.setIfInBounds_toArray, List.set_cons_zero, List.set_cons_succ])
  have r0 := R3.out.c0
  have r1 := R3.out.c1
  have r2 := R3.out.c2
  have rf := R3.out.f
  refine wpAnyH_onlyD 13 (by kernel_rfl) (fun o ho K hK => ?_) (by kernel_rfl)
  simp only [List.getElem?_toArray, List.getElem?_cons_succ, List.getElem?_cons_zero, Option.some.injEq] at ho
  subst ho
  go_simp
  refine hK.out _ _ ((((A3.out.far (by omega) _ _).far (by omega) _ _).far (by omega) _ _).held) ?_
  clear hK K hHeld
  intro hHeld
  refine wpAnyH_done (by kernel_rfl) ?_ _
  go_wp2
  exact bodyPost_ret (v := .agg #[.int .i64 (mulF a1 s), .int .i64 (mulF a2 s), .int .i64 (mulF a3 s)]) (by simp [results, Try.results48, go_sem, r0, r1, r2]) rfl ⟨rfl, below_put3 G3.out (by omega) _ _ _⟩
set_option maxHeartbeats 2000000 in
theorem VAdd_nil (a1 a2 a3 b1 b2 b3 : Int) (w : World) (ha : In3 a1 a2 a3) (hb : In3 b1 b2 b3) :
    Calls Try.prog 18 #[.pointer none, .agg #[.int .i64 a1, .int .i64 a2, .int .i64 a3], .agg #[.int .i64 b1, .int .i64 b2, .int .i64 b3]] w fun e w' => e = .returned (.agg #[.int .i64 (addF a1 b1), .int .i64 (addF a2 b2), .int .i64 (addF a3 b3)]) ∧ Below w.heap.size w w' := by
  have HA := Lib.hid ha
  have HB := Lib.hid hb
  clear ha hb
  have hmf : ∀ (fn : Fn) (first cap : Array Value) (w : World), (Instr.makeFunc fn first cap).run Try.prog w = .ok (.func fn first cap) w := fun _ _ _ _ => rfl
  go_enter Try.func18, Try.ntmps18
  go_wp2_with fail
  refine calls_gen (S := fun W => NB W w.heap.size ∧ VW W (w.heap.size + 1 + 1 + 1) 0 0 0 ∧ Below w.heap.size w W) ⟨(((NB.new w _).alloc _).alloc _).alloc _, VW.new _ _ 0 0 0 _ (by simp), by repeat (first | exact Below.refl _ _ | assumption | refine Below.setCell ?_ (by first | omega | (simp; done) | (simp; omega)) _ | refine Below.alloc ?_ (by first | omega | (simp; done) | (simp; omega)) _ | refine below_drewN ?_ _ | refine Below.drew ?_ | refine Below.trans ?_ (Below.mono (by assumption) (by first | omega | (simp; done) | (simp; omega))))⟩ (fun W0 hS => ?_)
  have P0 := Lib.hid hS.1
  have R0 := Lib.hid hS.2.1
  have G0 := Lib.hid hS.2.2
  clear hS
  refine (pwAdd_nil a1 a2 a3 b1 b2 b3 _ _ HA.out HB.out P0.out).mono ?_
  rintro e w1 ⟨rfl, h⟩
  have G1 := Lib.hid (G0.out.trans (h.mono G0.out.size))
  have R1 := Lib.hid (R0.out.below h R0.out.lt)
  clear h G0 R0
  have r0 := R1.out.c0
  have r1 := R1.out.c1
  have r2 := R1.out.c2
  have rf := R1.out.f
  go_wp2
  exact bodyPost_ret (v := .agg #[.int .i64 (addF a1 b1), .int .i64 (addF a2 b2), .int .i64 (addF a3 b3)]) (by simp [results, Try.results18, go_sem, r0, r1, r2]) rfl ⟨rfl, below_put3 G1.out (by omega) _ _ _⟩
set_option maxHeartbeats 2000000 in
theorem VScale_nil (a1 a2 a3 s : Int) (w : World) (ha : In3 a1 a2 a3) (s0 : -9223372036854775808 ≤ s) (s1 : s ≤ 9223372036854775807) :
    Calls Try.prog 19 #[.pointer none, .agg #[.int .i64 a1, .int .i64 a2, .int .i64 a3], .int .i64 s] w fun e w' => e = .returned (.agg #[.int .i64 (mulF a1 s), .int .i64 (mulF a2 s), .int .i64 (mulF a3 s)]) ∧ Below w.heap.size w w' := by
  have HA := Lib.hid ha
  clear ha
  have hmf : ∀ (fn : Fn) (first cap : Array Value) (w : World), (Instr.makeFunc fn first cap).run Try.prog w = .ok (.func fn first cap) w := fun _ _ _ _ => rfl
  go_enter Try.func19, Try.ntmps19
  go_wp2_with fail
  refine calls_gen (S := fun W => NB W w.heap.size ∧ IB W (w.heap.size + 1 + 1) s ∧ VW W (w.heap.size + 1 + 1 + 1) 0 0 0 ∧ Below w.heap.size w W) ⟨(((NB.new w _).alloc _).alloc _).alloc _, (IB.new _ _ s _ (by simp)).alloc _, VW.new _ _ 0 0 0 _ (by simp), by repeat (first | exact Below.refl _ _ | assumption | refine Below.setCell ?_ (by first | omega | (simp; done) | (simp; omega)) _ | refine Below.alloc ?_ (by first | omega | (simp; done) | (simp; omega)) _ | refine below_drewN ?_ _ | refine Below.drew ?_ | refine Below.trans ?_ (Below.mono (by assumption) (by first | omega | (simp; done) | (simp; omega))))⟩ (fun W0 hS => ?_)
  have P0 := Lib.hid hS.1
  have I0 := Lib.hid hS.2.1
  have R0 := Lib.hid hS.2.2.1
  have G0 := Lib.hid hS.2.2.2
  clear hS
  refine (eaScale_nil a1 a2 a3 s _ _ _ HA.out s0 s1 P0.out I0.out).mono ?_
  rintro e w1 ⟨rfl, h⟩
  have G1 := Lib.hid (G0.out.trans (h.mono G0.out.size))
  have R1 := Lib.hid (R0.out.below h R0.out.lt)
  clear h G0 R0
  have r0 := R1.out.c0
  have r1 := R1.out.c1
  have r2 := R1.out.c2
  have rf := R1.out.f
  go_wp2
  exact bodyPost_ret (v := .agg #[.int .i64 (mulF a1 s), .int .i64 (mulF a2 s), .int .i64 (mulF a3 s)]) (by simp [results, Try.results19, go_sem, r0, r1, r2]) rfl ⟨rfl, below_put3 G1.out (by omega) _ _ _⟩
set_option maxHeartbeats 2000000 in
theorem VUnit_nil (a1 a2 a3 n : Int) (w : World) (c : a1 * a1 + a2 * a2 + a3 * a3 < 85070591730234615865843651857942052864) (ha : In3 a1 a2 a3) (hn : lenF (a1 * a1 + a2 * a2 + a3 * a3) = n) (n0 : n ≠ 0) :
    Calls Try.prog 44 #[.pointer none, .agg #[.int .i64 a1, .int .i64 a2, .int .i64 a3]] w fun e w' => e = .returned (.tuple #[.agg #[.int .i64 (divF a1 n), .int .i64 (divF a2 n), .int .i64 (divF a3 n)], .bool true]) ∧ Below w.heap.size w w' := by
  have U := Lib.hid (fun (W : World) => Unit3_nil a1 a2 a3 n W c hn n0 ha.x0 ha.x1 ha.y0 ha.y1 ha.z0 ha.z1)
  generalize divF a1 n = p at *
  generalize divF a2 n = q at *
  generalize divF a3 n = r at *
  clear c hn n0 ha
  go_enter Try.func44, Try.ntmps44
  go_wp2_with fail
  refine calls_gen (S := fun W => VW W (w.heap.size + 1) 0 0 0 ∧ Below w.heap.size w W) ⟨VW.new _ _ 0 0 0 _ (by simp), by repeat (first | exact Below.refl _ _ | assumption | refine Below.setCell ?_ (by first | omega | (simp; done) | (simp; omega)) _ | refine Below.alloc ?_ (by first | omega | (simp; done) | (simp; omega)) _ | refine below_drewN ?_ _ | refine Below.drew ?_ | refine Below.trans ?_ (Below.mono (by assumption) (by first | omega | (simp; done) | (simp; omega))))⟩ (fun W0 hS => ?_)
  have R0 := Lib.hid hS.1
  have G0 := Lib.hid hS.2
  clear hS
  refine (U.out _).mono ?_
  rintro e w1 ⟨rfl, h⟩
  have G1 := Lib.hid (G0.out.trans (h.mono G0.out.size))
  have R1 := Lib.hid (R0.out.below h R0.out.lt)
  clear h G0 R0
  have r0 := R1.out.c0
  have r1 := R1.out.c1
  have r2 := R1.out.c2
  have rf := R1.out.f
  go_wp2
  exact bodyPost_ret (v := .tuple #[.agg #[.int .i64 p, .int .i64 q, .int .i64 r], .bool true]) (by simp [results, Try.results44, go_sem, r0, r1, r2]) rfl ⟨rfl, below_put3 G1.out (by omega) _ _ _⟩
end Go.Proofs.Ytinahmhiopgcnaa
