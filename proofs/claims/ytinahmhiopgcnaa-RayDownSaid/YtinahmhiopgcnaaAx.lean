/- Contracts with a nil receiver: fx's Add, Div; a length, a direction; vec's Add, Scale, Unit. -/
import Derived.Test.YtinahmhiopgcnaaGp
import Derived.Test.YtinahmhiopgcnaaBx
import Derived.Test.YtinahmhiopgcnaaJf
import Derived.Test.YtinahmhiopgcnaaBm
import Derived.Test.YtinahmhiopgcnaaE9
import Derived.Test.YtinahmhiopgcnaaBe
namespace Go.Proofs.Ytinahmhiopgcnaa
open Go.RowKit
set_option linter.unusedVariables false
set_option linter.unusedSimpArgs false

set_option maxHeartbeats 1000000 in
theorem fxAdd_nil (x y : Int) (w : World) (x0 : -9223372036854775808 ≤ x) (x1 : x ≤ 9223372036854775807) (y0 : -9223372036854775808 ≤ y) (y1 : y ≤ 9223372036854775807) :
    Calls Try.prog 37 #[.pointer none, .int .i64 x, .int .i64 y] w fun e w' => e = .returned (.int .i64 (addF x y)) ∧ Below w.heap.size w w' := by
  have I := Lib.hid (add_128 x0 x1 y0 y1)
  have hmf : ∀ (fn : Fn) (first cap : Array Value) (w : World), (Instr.makeFunc fn first cap).run Try.prog w = .ok (.func fn first cap) w := fun _ _ _ _ => rfl
  go_enter Try.func37, Try.ntmps37
  go_wp2_with fail
  refine (Of_any x _ x0 x1).mono ?_
  rintro e w1 ⟨rfl, hb1⟩
  obtain ⟨hc_w1, hf_w1⟩ := bcell hb1
  have z_w1 := hb1.size
  try simp at z_w1
  have y_w1 : w.heap.size ≤ w1.heap.size := by omega
  go_wp2_with fail
  refine (Of_any y _ y0 y1).mono ?_
  rintro e w2 ⟨rfl, hb2⟩
  obtain ⟨hc_w2, hf_w2⟩ := bcell hb2
  have z_w2 := hb2.size
  try simp at z_w2
  have y_w2 : w.heap.size ≤ w2.heap.size := by omega
  go_wp2_with fail
  refine (Add_yes x y (x + y) _ I.out.2.2.1 I.out.2.2.2.1 rfl I.out.1).mono ?_
  rintro e w3 ⟨rfl, hb3⟩
  obtain ⟨hc_w3, hf_w3⟩ := bcell hb3
  have z_w3 := hb3.size
  try simp at z_w3
  have y_w3 : w.heap.size ≤ w3.heap.size := by omega
  have B3 : Below w.heap.size w w3 := by repeat (first | exact Below.refl _ _ | assumption | refine Below.setCell ?_ (by first | omega | (simp; done) | (simp; omega)) _ | refine Below.alloc ?_ (by first | omega | (simp; done) | (simp; omega)) _ | refine below_drewN ?_ _ | refine Below.drew ?_ | refine Below.trans ?_ (Below.mono (by assumption) (by first | omega | (simp; done) | (simp; omega))))
  have HB3 := Lib.hid B3
  clear B3 hb1 hb2 hb3 hc_w1 hf_w1 hc_w2 hf_w2 hc_w3 hf_w3
  go_wp2_with fail
  refine (narrow_nil _ _ I.out.1).mono ?_
  rintro e w9 ⟨rfl, hb9⟩
  go_wp2
  go_ret
  exact ⟨rfl, (show Below w.heap.size w _ by have := HB3.out; repeat (first | exact Below.refl _ _ | assumption | refine Below.setCell ?_ (by first | omega | (simp; done) | (simp; omega)) _ | refine Below.alloc ?_ (by first | omega | (simp; done) | (simp; omega)) _ | refine below_drewN ?_ _ | refine Below.drew ?_ | refine Below.trans ?_ (Below.mono (by assumption) (by first | omega | (simp; done) | (simp; omega))))).trans (hb9.mono (by simp; omega))⟩
theorem fxDiv_nil (x y : Int) (w : World) (x0 : -9223372036854775808 ≤ x) (x1 : x ≤ 9223372036854775807) (y0 : -9223372036854775808 ≤ y) (y1 : y ≤ 9223372036854775807) :
    Calls Try.prog 65 #[.pointer none, .int .i64 x, .int .i64 y] w fun e w' => e = .returned (.int .i64 (divF x y)) ∧ Below w.heap.size w w' := by
  have I := Lib.hid (mul_128 x0 x1 (show (-9223372036854775808 : Int) ≤ 4294967296 by omega) (by omega))
  have hmf : ∀ (fn : Fn) (first cap : Array Value) (w : World), (Instr.makeFunc fn first cap).run Try.prog w = .ok (.func fn first cap) w := fun _ _ _ _ => rfl
  go_enter Try.func65, Try.ntmps65
  go_wp2_with fail
  refine (Mul_any x 4294967296 _ x0 x1 (by omega) (by omega)).mono ?_
  rintro e w1 ⟨rfl, hb1⟩
  obtain ⟨hc_w1, hf_w1⟩ := bcell hb1
  have z_w1 := hb1.size
  try simp at z_w1
  have y_w1 : w.heap.size ≤ w1.heap.size := by omega
  go_wp2_with fail
  refine (quotient_nil (x * 4294967296) y _ I.out y0 y1).mono ?_
  rintro e w9 ⟨rfl, hb9⟩
  go_wp2
  go_ret
  exact ⟨rfl, hb1.trans (hb9.mono hb1.size)⟩
/-- a length that fits -/
theorem length_nil (a : Option Addr) (len cap : Nat) (zs : List Int) (w : World) (c : sqs zs < 85070591730234615865843651857942052864) (I : Ints w .i64 a len cap zs) :
    Calls Try.prog 89 #[.pointer none, .slice a len cap] w fun e w' => e = .returned (.int .i64 (lenF (sqs zs))) ∧ Below w.heap.size w w' := by
  have S0 := sqs_nn zs
  have HI := Lib.hid I
  have Q := Lib.hid (squares_any a len cap zs)
  obtain ⟨S, hS⟩ : ∃ S, sqs zs = S := ⟨_, rfl⟩
  rw [hS] at S0 Q c ⊢
  clear I hS
  have L := len_fit c
  have i128 : In128 S := by unfold In128; omega
  have CL := Lib.hid (show clipW S = S ∧ fitW S = true from ⟨by unfold clipW; rw [if_pos i128], by unfold fitW; rw [decide_eq_true_iff]; exact i128⟩)
  have r0 := rootI_nn S
  have r1 := L.1
  have E := Lib.hid L.2
  have I := Lib.hid i128
  clear L i128 c
  go_enter Try.func89, Try.ntmps89
  go_wp2_with fail
  refine (Q.out _ HI.out).mono ?_
  rw [CL.out.1, CL.out.2]
  rintro e w1 ⟨rfl, hb1⟩
  obtain ⟨hc_w1, hf_w1⟩ := bcell hb1
  have z_w1 := hb1.size
  try simp at z_w1
  have y_w1 : w.heap.size ≤ w1.heap.size := by omega
  go_wp2_with fail
  refine (Root_any _ _ S _ (isW_of I.out)).mono ?_
  rintro e w2 ⟨rfl, hb2⟩
  obtain ⟨hc_w2, hf_w2⟩ := bcell hb2
  have z_w2 := hb2.size
  try simp at z_w2
  have y_w2 : w.heap.size ≤ w2.heap.size := by omega
  go_wp2
  go_ret
  exact ⟨retI E.out.1.symm, by repeat (first | exact Below.refl _ _ | assumption | refine Below.setCell ?_ (by first | omega | (simp; done) | (simp; omega)) _ | refine Below.alloc ?_ (by first | omega | (simp; done) | (simp; omega)) _ | refine below_drewN ?_ _ | refine Below.drew ?_ | refine Below.trans ?_ (Below.mono (by assumption) (by first | omega | (simp; done) | (simp; omega))))⟩
theorem Len3_nil (x y z : Int) (w : World) (c : x * x + y * y + z * z < 85070591730234615865843651857942052864) (x0 : -9223372036854775808 ≤ x) (x1 : x ≤ 9223372036854775807) (y0 : -9223372036854775808 ≤ y) (y1 : y ≤ 9223372036854775807) (z0 : -9223372036854775808 ≤ z) (z1 : z ≤ 9223372036854775807) :
    Calls Try.prog 85 #[.pointer none, .int .i64 x, .int .i64 y, .int .i64 z] w fun e w' => e = .returned (.int .i64 (lenF (x * x + y * y + z * z))) ∧ Below w.heap.size w w' := by
  have e1 : sqs [x, y, z] = x * x + y * y + z * z := by simp [sqs]; omega
  have C := Lib.hid (show sqs [x, y, z] < 85070591730234615865843651857942052864 by rw [e1]; exact c)
  have E := Lib.hid e1
  clear e1 c
  go_enter Try.func85, Try.ntmps85
  go_wp2_with fail
  refine (length_nil _ 3 3 [x, y, z] _ C.out (ints_new3 w _ x0 x1 y0 y1 z0 z1)).mono ?_
  rw [E.out]
  rintro e w1 ⟨rfl, h⟩
  go_wp2
  go_ret
  exact ⟨rfl, ((Below.refl _ _).alloc (Nat.le_refl _) _).trans (h.mono (by simp))⟩
theorem Unit3_nil (x y z n : Int) (w : World) (c : x * x + y * y + z * z < 85070591730234615865843651857942052864) (hn : lenF (x * x + y * y + z * z) = n) (n0 : n ≠ 0) (x0 : -9223372036854775808 ≤ x) (x1 : x ≤ 9223372036854775807) (y0 : -9223372036854775808 ≤ y) (y1 : y ≤ 9223372036854775807) (z0 : -9223372036854775808 ≤ z) (z1 : z ≤ 9223372036854775807) :
    Calls Try.prog 73 #[.pointer none, .int .i64 x, .int .i64 y, .int .i64 z] w fun e w' => e = .returned (.tuple #[.int .i64 (divF x n), .int .i64 (divF y n), .int .i64 (divF z n), .bool true]) ∧ Below w.heap.size w w' := by
  have N := Lib.hid (lenF_in (x * x + y * y + z * z))
  have E := Lib.hid hn
  have C := Lib.hid c
  have t : (n == 0) = false := by simp; exact n0
  clear c hn n0
  go_enter Try.func73, Try.ntmps73
  go_wp2_with fail
  refine (Len3_nil x y z _ C.out x0 x1 y0 y1 z0 z1).mono ?_
  rw [E.out]
  rintro e w1 ⟨rfl, h1⟩
  have H1 := Lib.hid h1
  clear h1
  go_wp2_with fail
  refine (fxDiv_nil x n _ x0 x1 (by have := N.out; rw [E.out] at this; omega) (by have := N.out; rw [E.out] at this; omega)).mono ?_
  rintro e w2 ⟨rfl, h2⟩
  have H2 := Lib.hid (H1.out.trans (h2.mono H1.out.size))
  clear h2
  go_wp2_with fail
  refine (fxDiv_nil y n _ y0 y1 (by have := N.out; rw [E.out] at this; omega) (by have := N.out; rw [E.out] at this; omega)).mono ?_
  rintro e w3 ⟨rfl, h3⟩
  have H3 := Lib.hid (H2.out.trans (h3.mono H2.out.size))
  clear h3
  go_wp2_with fail
  refine (fxDiv_nil z n _ z0 z1 (by have := N.out; rw [E.out] at this; omega) (by have := N.out; rw [E.out] at this; omega)).mono ?_
  rintro e w4 ⟨rfl, h4⟩
  go_wp2
  exact bodyPost_ret (v := .tuple #[.int .i64 (divF x n), .int .i64 (divF y n), .int .i64 (divF z n), .bool true]) (by simp [results, Try.results73, go_sem]) rfl ⟨rfl, H3.out.trans (h4.mono H3.out.size)⟩
/-- a nil receiver in a box of its own -/
structure NB (W : World) (n : Nat) : Prop where
  c : W.cell? ⟨n, 0, none⟩ = some (.pointer none)
  lt : n < W.heap.size
theorem NB.new (w : World) (t : TypeId) : NB (w.alloc (.cells #[.pointer none] t)) w.heap.size := ⟨World.cell?_alloc_new w _ t 0, by simp⟩
theorem NB.below {B : Nat} {w w' : World} {n : Nat} (p : NB w n) (h : Below B w w') (hn : n < B) : NB w' n := ⟨(h.cell (p := ⟨n, 0, none⟩) hn).trans p.c, by have := h.size; have := p.lt; omega⟩
theorem NB.alloc {w : World} {n : Nat} (p : NB w n) (o : Obj) : NB (w.alloc o) n := p.below ((Below.refl w.heap.size w).alloc (Nat.le_refl _) o) p.lt
theorem NB.drew {w : World} {n : Nat} (p : NB w n) : NB w.drew n := ⟨p.c, p.lt⟩
theorem below_put3 {B r : Nat} {w W : World} (t : Below B w W) (h : B ≤ r) (u v z : Value) : Below B w (((W.setCell ⟨r, 0, none⟩ u).setCell ⟨r, 1, none⟩ v).setCell ⟨r, 2, none⟩ z) :=
  ((t.setCell (p := ⟨r, 0, none⟩) h u).setCell (p := ⟨r, 1, none⟩) h v).setCell (p := ⟨r, 2, none⟩) h z
theorem cAdd_nil (x y : Int) (n : Nat) (w : World) (x0 : -9223372036854775808 ≤ x) (x1 : x ≤ 9223372036854775807) (y0 : -9223372036854775808 ≤ y) (y1 : y ≤ 9223372036854775807) (P : NB w n) :
    Calls Try.prog 47 #[.int .i64 x, .int .i64 y, .pointer (some ⟨n, 0, none⟩)] w fun e w' => e = .returned (.int .i64 (addF x y)) ∧ Below w.heap.size w w' := by
  have pc := P.c
  go_enter Try.func47, Try.ntmps47
  go_wp2_with fail
  refine (fxAdd_nil x y _ x0 x1 y0 y1).mono ?_
  rintro e w9 ⟨rfl, hb9⟩
  go_wp2
  go_ret
  exact ⟨rfl, hb9⟩
theorem cScale_nil (x y : Int) (n j : Nat) (w : World) (x0 : -9223372036854775808 ≤ x) (x1 : x ≤ 9223372036854775807) (y0 : -9223372036854775808 ≤ y) (y1 : y ≤ 9223372036854775807) (P : NB w n) (I : IB w j y) :
    Calls Try.prog 49 #[.int .i64 x, .pointer (some ⟨n, 0, none⟩), .pointer (some ⟨j, 0, none⟩)] w fun e w' => e = .returned (.int .i64 (mulF x y)) ∧ Below w.heap.size w w' := by
  have ic := I.c
  have pc := P.c
  go_enter Try.func49, Try.ntmps49
  go_wp2_with fail
  refine (fxMul_nil x y _ x0 x1 y0 y1).mono ?_
  rintro e w9 ⟨rfl, hb9⟩
  go_wp2
  go_ret
  exact ⟨rfl, hb9⟩
set_option maxRecDepth 100000 in
set_option maxHeartbeats 4000000 in
theorem pwAdd_nil (a1 a2 a3 b1 b2 b3 : Int) (n : Nat) (w : World) (ha : In3 a1 a2 a3) (hb : In3 b1 b2 b3) (P : NB w n) :
    Calls Try.prog 46 #[.agg #[.int .i64 a1, .int .i64 a2, .int .i64 a3], .agg #[.int .i64 b1, .int .i64 b2, .int .i64 b3], .func (.func 47) #[] #[.pointer (some ⟨n, 0, none⟩)]] w fun e w' => e = .returned (.agg #[.int .i64 (addF a1 b1), .int .i64 (addF a2 b2), .int .i64 (addF a3 b3)]) ∧ Below w.heap.size w w' := by
  have HA := Lib.hid ha
  have HB := Lib.hid hb
  have P0 := Lib.hid P
  clear ha hb P
  go_enter Try.func46, Try.ntmps46
  go_wp2_with fail
  have A0 := Lib.hid ((VW.new w w.heap.size a1 a2 a3 24 rfl).alloc (.cells #[.int .i64 b1, .int .i64 b2, .int .i64 b3] 24))
  have B0 := Lib.hid (VW.new (w.alloc (.cells #[.int .i64 a1, .int .i64 a2, .int .i64 a3] 24)) (w.heap.size + 1) b1 b2 b3 24 (by simp))
  have L0 : Below w.heap.size w ((w.alloc (.cells #[.int .i64 a1, .int .i64 a2, .int .i64 a3] 24)).alloc (.cells #[.int .i64 b1, .int .i64 b2, .int .i64 b3] 24)) := by repeat (first | exact Below.refl _ _ | assumption | refine Below.setCell ?_ (by first | omega | (simp; done) | (simp; omega)) _ | refine Below.alloc ?_ (by first | omega | (simp; done) | (simp; omega)) _ | refine below_drewN ?_ _ | refine Below.drew ?_ | refine Below.trans ?_ (Below.mono (by assumption) (by first | omega | (simp; done) | (simp; omega))))
  have A0 := Lib.hid (A0.out.alloc (.cells #[.int .i64 0, .int .i64 0, .int .i64 0] 24))
  have B0 := Lib.hid (B0.out.alloc (.cells #[.int .i64 0, .int .i64 0, .int .i64 0] 24))
  have R0 := Lib.hid (VW.new ((w.alloc (.cells #[.int .i64 a1, .int .i64 a2, .int .i64 a3] 24)).alloc (.cells #[.int .i64 b1, .int .i64 b2, .int .i64 b3] 24)) (w.heap.size + 1 + 1) 0 0 0 24 (by simp))
  have L0 := L0.alloc (by simp; omega) (.cells #[.int .i64 0, .int .i64 0, .int .i64 0] 24)
  generalize ((w.alloc (.cells #[.int .i64 a1, .int .i64 a2, .int .i64 a3] 24)).alloc (.cells #[.int .i64 b1, .int .i64 b2, .int .i64 b3] 24)).alloc (.cells #[.int .i64 0, .int .i64 0, .int .i64 0] 24) = W0 at *
  have P0 := Lib.hid ((P0.out.below L0 P0.out.lt).drew)
  have G0 := Lib.hid L0.drew
  have A0 := Lib.hid A0.out.drew
  have B0 := Lib.hid B0.out.drew
  have R0 := Lib.hid R0.out.drew
  clear L0
  refine wp_region_held_drew (S := fun W => (W.cell? ⟨w.heap.size, 0, none⟩ = some (.int .i64 (a1)) ∧ W.cell? ⟨w.heap.size, 1, none⟩ = some (.int .i64 (a2)) ∧ W.cell? ⟨w.heap.size, 2, none⟩ = some (.int .i64 (a3))) ∧ (W.cell? ⟨w.heap.size + 1, 0, none⟩ = some (.int .i64 (b1)) ∧ W.cell? ⟨w.heap.size + 1, 1, none⟩ = some (.int .i64 (b2)) ∧ W.cell? ⟨w.heap.size + 1, 2, none⟩ = some (.int .i64 (b3)))) (by kernel_rfl) ⟨A0.out.held, B0.out.held⟩ (fun hHeld => ?_)
  refine wpAnyH_takeD 0 7 (v := ?_) (by kernel_rfl) (by kernel_rfl) (by kernel_rfl) (by kernel_rfl) (by rfl) (fun _ _ _ h => h) ?_ hHeld ?_
  rotate_left 1
  (intro o ho W hSw; simp only [List.getElem?_toArray, List.getElem?_cons_succ, List.getElem?_cons_zero, Option.some.injEq] at ho; subst ho; (try dsimp only at hSw); go_simp; try with_reducible rfl)
  (try simp only [Act.put, List.setIfInBounds_toArray, List.set_cons_zero, List.set_cons_succ])
  refine wpAnyH_takeD 1 8 (v := ?_) (by kernel_rfl) (by kernel_rfl) (by kernel_rfl) (by kernel_rfl) (by rfl) (fun _ _ _ h => h) ?_ hHeld ?_
  rotate_left 1
  (intro o ho W hSw; simp only [List.getElem?_toArray, List.getElem?_cons_succ, List.getElem?_cons_zero, Option.some.injEq] at ho; subst ho; (try dsimp only at hSw); go_simp; try with_reducible rfl)
  (try simp only [Act.put, List.setIfInBounds_toArray, List.set_cons_zero, List.set_cons_succ])
  refine wpAnyH_takeD 2 9 (v := ?_) (by kernel_rfl) (by kernel_rfl) (by kernel_rfl) (by kernel_rfl) (by rfl) (fun _ _ _ h => h) ?_ hHeld ?_
  rotate_left 1
  (intro o ho W hSw; simp only [List.getElem?_toArray, List.getElem?_cons_succ, List.getElem?_cons_zero, Option.some.injEq] at ho; subst ho; (try dsimp only at hSw); go_simp; try with_reducible rfl)
  (try simp only [Act.put, List.setIfInBounds_toArray, List.set_cons_zero, List.set_cons_succ])
  refine wpAnyH_takeD 3 10 (v := ?_) (by kernel_rfl) (by kernel_rfl) (by kernel_rfl) (by kernel_rfl) (by rfl) (fun _ _ _ h => h) ?_ hHeld ?_
  rotate_left 1
  (intro o ho W hSw; simp only [List.getElem?_toArray, List.getElem?_cons_succ, List.getElem?_cons_zero, Option.some.injEq] at ho; subst ho; (try dsimp only at hSw); go_simp; try with_reducible rfl)
  (try simp only [Act.put, List.setIfInBounds_toArray, List.set_cons_zero, List.set_cons_succ])
  refine wpAnyH_takeD 4 11 (v := ?_) (by kernel_rfl) (by kernel_rfl) (by kernel_rfl) (by kernel_rfl) (by rfl) (fun _ _ _ h => h) ?_ hHeld ?_
  rotate_left 1
  (intro o ho W hSw; simp only [List.getElem?_toArray, List.getElem?_cons_succ, List.getElem?_cons_zero, Option.some.injEq] at ho; subst ho; (try dsimp only at hSw); go_simp; try with_reducible rfl)
  (try simp only [Act.put, List.setIfInBounds_toArray, List.set_cons_zero, List.set_cons_succ])
  refine wpAnyH_takeD 6 13 (v := ?_) (by kernel_rfl) (by kernel_rfl) (by kernel_rfl) (by kernel_rfl) (by rfl) (fun _ _ _ h => h) ?_ hHeld ?_
  rotate_left 1
  (intro o ho W hSw; simp only [List.getElem?_toArray, List.getElem?_cons_succ, List.getElem?_cons_zero, Option.some.injEq] at ho; subst ho; (try dsimp only at hSw); go_simp; try with_reducible rfl)
  (try simp only [Act.put, List.setIfInBounds_toArray, List.set_cons_zero, List.set_cons_succ])
  refine wpAnyH_takeD 7 14 (v := ?_) (by kernel_rfl) (by kernel_rfl) (by kernel_rfl) (by kernel_rfl) (by rfl) (fun _ _ _ h => h) ?_ hHeld ?_
  rotate_left 1
  (intro o ho W hSw; simp only [List.getElem?_toArray, List.getElem?_cons_succ, List.getElem?_cons_zero, Option.some.injEq] at ho; subst ho; (try dsimp only at hSw); go_simp; try with_reducible rfl)
  (try simp only [Act.put, List.setIfInBounds_toArray, List.set_cons_zero, List.set_cons_succ])
  refine wpAnyH_takeD 8 15 (v := ?_) (by kernel_rfl) (by kernel_rfl) (by kernel_rfl) (by kernel_rfl) (by rfl) (fun _ _ _ h => h) ?_ hHeld ?_
  rotate_left 1
  (intro o ho W hSw; simp only [List.getElem?_toArray, List.getElem?_cons_succ, List.getElem?_cons_zero, Option.some.injEq] at ho; subst ho; (try dsimp only at hSw); go_simp; try with_reducible rfl)
  (try simp only [Act.put, List.setIfInBounds_toArray, List.set_cons_zero, List.set_cons_succ])
  refine wpAnyH_takeD 9 16 (v := ?_) (by kernel_rfl) (by kernel_rfl) (by kernel_rfl) (by kernel_rfl) (by rfl) (fun _ _ _ h => h) ?_ hHeld ?_
  rotate_left 1
  (intro o ho W hSw; simp only [List.getElem?_toArray, List.getElem?_cons_succ, List.getElem?_cons_zero, Option.some.injEq] at ho; subst ho; (try dsimp only at hSw); go_simp; try with_reducible rfl)
  (try simp only [Act.put, List.setIfInBounds_toArray, List.set_cons_zero, List.set_cons_succ])
  refine wpAnyH_takeD 10 17 (v := ?_) (by kernel_rfl) (by kernel_rfl) (by kernel_rfl) (by kernel_rfl) (by rfl) (fun _ _ _ h => h) ?_ hHeld ?_
  rotate_left 1
  (intro o ho W hSw; simp only [List.getElem?_toArray, List.getElem?_cons_succ, List.getElem?_cons_zero, Option.some.injEq] at ho; subst ho; (try dsimp only at hSw); go_simp; try with_reducible rfl)
  (try simp only [Act.put, List.setIfInBounds_toArray, List.set_cons_zero, List.set_cons_succ])
  refine wpAnyH_takeD 12 19 (v := ?_) (by kernel_rfl) (by kernel_rfl) (by kernel_rfl) (by kernel_rfl) (by rfl) (fun _ _ _ h => h) ?_ hHeld ?_
  rotate_left 1
  (intro o ho W hSw; simp only [List.getElem?_toArray, List.getElem?_cons_succ, List.getElem?_cons_zero, Option.some.injEq] at ho; subst ho; (try dsimp only at hSw); go_simp; try with_reducible rfl)
  (try simp only [Act.put, List.setIfInBounds_toArray, List.set_cons_zero, List.set_cons_succ])
  refine wpAnyH_takeD 13 20 (v := ?_) (by kernel_rfl) (by kernel_rfl) (by kernel_rfl) (by kernel_rfl) (by rfl) (fun _ _ _ h => h) ?_ hHeld ?_
  rotate_left 1
  (intro o ho W hSw; simp only [List.getElem?_toArray, List.getElem?_cons_succ, List.getElem?_cons_zero, Option.some.injEq] at ho; subst ho; (try dsimp only at hSw); go_simp; try with_reducible rfl)
  (try simp only [Act.put, List.setIfInBounds_toArray, List.set_cons_zero, List.set_cons_succ])
  refine wpAnyH_takeD 14 21 (v := ?_) (by kernel_rfl) (by kernel_rfl) (by kernel_rfl) (by kernel_rfl) (by rfl) (fun _ _ _ h => h) ?_ hHeld ?_
  rotate_left 1
  (intro o ho W hSw; simp only [List.getElem?_toArray, List.getElem?_cons_succ, List.getElem?_cons_zero, Option.some.injEq] at ho; subst ho; (try dsimp only at hSw); go_simp; try with_reducible rfl)
  (try simp only [Act.put, List.setIfInBounds_toArray, List.set_cons_zero, List.set_cons_succ])
  refine wpAnyH_takeD 15 22 (v := ?_) (by kernel_rfl) (by kernel_rfl) (by kernel_rfl) (by kernel_rfl) (by rfl) (fun _ _ _ h => h) ?_ hHeld ?_
  rotate_left 1
  (intro o ho W hSw; simp only [List.getElem?_toArray, List.getElem?_cons_succ, List.getElem?_cons_zero, Option.some.injEq] at ho; subst ho; (try dsimp only at hSw); go_simp; try with_reducible rfl)
  (try simp only [Act.put, List.setIfInBounds_toArray, List.set_cons_zero, List.set_cons_succ])
  refine wpAnyH_takeD 16 23 (v := ?_) (by kernel_rfl) (by kernel_rfl) (by kernel_rfl) (by kernel_rfl) (by rfl) (fun _ _ _ h => h) ?_ hHeld ?_
  rotate_left 1
  (intro o ho W hSw; simp only [List.getElem?_toArray, List.getElem?_cons_succ, List.getElem?_cons_zero, Option.some.injEq] at ho; subst ho; (try dsimp only at hSw); go_simp; try with_reducible rfl)
  (try simp only [Act.put, List.setIfInBounds_toArray, List.set_cons_zero, List.set_cons_succ])
  refine wpAnyH_onlyD 5 (by kernel_rfl) (fun o ho K hK => ?_) (by kernel_rfl)
  simp only [List.getElem?_toArray, List.getElem?_cons_succ, List.getElem?_cons_zero, Option.some.injEq] at ho
  subst ho
  go_simp
  refine (cAdd_nil a1 b1 n _ HA.out.x0 HA.out.x1 HB.out.x0 HB.out.x1 P0.out).mono ?_
  rintro e w1 ⟨rfl, h⟩
  have G1 := Lib.hid (G0.out.trans (h.mono G0.out.size))
  have A1 := Lib.hid (A0.out.below h A0.out.lt)
  (try have B1 := Lib.hid (B0.out.below h B0.out.lt))
  (try have R1 := Lib.hid (R0.out.below h R0.out.lt))
  (try have P1 := Lib.hid (P0.out.below h P0.out.lt))
  (try have I1 := Lib.hid (I0.out.below h I0.out.lt))
  go_wp2_with fail
  refine hK.out _ _ (⟨A1.out.held, B1.out.held⟩) ?_
  clear hK K hHeld
  intro hHeld
  clear h G0 A0
  (try clear B0)
  (try clear R0)
  (try clear P0)
  (try clear I0)
  refine wpAnyH_onlyD 11 (by kernel_rfl) (fun o ho K hK => ?_) (by kernel_rfl)
  simp only [List.getElem?_toArray, List.getElem?_cons_succ, List.getElem?_cons_zero, Option.some.injEq] at ho
  subst ho
  go_simp
  refine (cAdd_nil a2 b2 n _ HA.out.y0 HA.out.y1 HB.out.y0 HB.out.y1 P1.out).mono ?_
  rintro e w2 ⟨rfl, h⟩
  have G2 := Lib.hid (G1.out.trans (h.mono G1.out.size))
  have A2 := Lib.hid (A1.out.below h A1.out.lt)
  (try have B2 := Lib.hid (B1.out.below h B1.out.lt))
  (try have R2 := Lib.hid (R1.out.below h R1.out.lt))
  (try have P2 := Lib.hid (P1.out.below h P1.out.lt))
  (try have I2 := Lib.hid (I1.out.below h I1.out.lt))
  go_wp2_with fail
  refine hK.out _ _ (⟨A2.out.held, B2.out.held⟩) ?_
  clear hK K hHeld
  intro hHeld
  clear h G1 A1
  (try clear B1)
  (try clear R1)
  (try clear P1)
  (try clear I1)
  refine wpAnyH_onlyD 17 (by kernel_rfl) (fun o ho K hK => ?_) (by kernel_rfl)
  simp only [List.getElem?_toArray, List.getElem?_cons_succ, List.getElem?_cons_zero, Option.some.injEq] at ho
  subst ho
  go_simp
  refine (cAdd_nil a3 b3 n _ HA.out.z0 HA.out.z1 HB.out.z0 HB.out.z1 P2.out).mono ?_
  rintro e w3 ⟨rfl, h⟩
  have G3 := Lib.hid (G2.out.trans (h.mono G2.out.size))
  have A3 := Lib.hid (A2.out.below h A2.out.lt)
  (try have B3 := Lib.hid (B2.out.below h B2.out.lt))
  (try have R3 := Lib.hid (R2.out.below h R2.out.lt))
  (try have P3 := Lib.hid (P2.out.below h P2.out.lt))
  (try have I3 := Lib.hid (I2.out.below h I2.out.lt))
  go_wp2_with fail
  refine hK.out _ _ (⟨A3.out.held, B3.out.held⟩) ?_
  clear hK K hHeld
  intro hHeld
  clear h G2 A2
  (try clear B2)
  (try clear R2)
  (try clear P2)
  (try clear I2)
  refine wpAnyH_takeD 18 25 (v := ?_) (by kernel_rfl) (by kernel_rfl) (by kernel_rfl) (by kernel_rfl) (by rfl) (fun _ _ _ h => h) ?_ hHeld ?_
  rotate_left 1
  (intro o ho W hSw; simp only [List.getElem?_toArray, List.getElem?_cons_succ, List.getElem?_cons_zero, Option.some.injEq] at ho; subst ho; (try dsimp only at hSw); go_simp; try with_reducible rfl)
  (try simp only [Act.put, List.setIfInBounds_toArray, List.set_cons_zero, List.set_cons_succ])
  have r0 := R3.out.c0
  have r1 := R3.out.c1
  have r2 := R3.out.c2
  have rf := R3.out.f
  refine wpAnyH_onlyD 19 (by kernel_rfl) (fun o ho K hK => ?_) (by kernel_rfl)
  simp only [List.getElem?_toArray, List.getElem?_cons_succ, List.getElem?_cons_zero, Option.some.injEq] at ho
  subst ho
  go_simp
  refine hK.out _ _ (⟨(((A3.out.far (by omega) _ _).far (by omega) _ _).far (by omega) _ _).held, (((B3.out.far (by omega) _ _).far (by omega) _ _).far (by omega) _ _).held⟩) ?_
  clear hK K hHeld
  intro hHeld
  refine wpAnyH_done (by kernel_rfl) ?_ _
  go_wp2
  exact bodyPost_ret (v := .agg #[.int .i64 (addF a1 b1), .int .i64 (addF a2 b2), .int .i64 (addF a3 b3)]) (by simp [results, Try.results46, go_sem, r0, r1, r2]) rfl ⟨rfl, below_put3 G3.out (by omega) _ _ _⟩
set_option maxRecDepth 100000 in
set_option maxHeartbeats 4000000 in
theorem eaScale_nil (a1 a2 a3 s : Int) (n j : Nat) (w : World) (ha : In3 a1 a2 a3) (s0 : -9223372036854775808 ≤ s) (s1 : s ≤ 9223372036854775807) (P : NB w n) (I : IB w j s) :
    Calls Try.prog 48 #[.agg #[.int .i64 a1, .int .i64 a2, .int .i64 a3], .func (.func 49) #[] #[.pointer (some ⟨n, 0, none⟩), .pointer (some ⟨j, 0, none⟩)]] w fun e w' => e = .returned (.agg #[.int .i64 (mulF a1 s), .int .i64 (mulF a2 s), .int .i64 (mulF a3 s)]) ∧ Below w.heap.size w w' := by
  have I0 := Lib.hid I
  have HA := Lib.hid ha
  have P0 := Lib.hid P
  clear ha P I
  go_enter Try.func48, Try.ntmps48
  go_wp2_with fail
  have A0 := Lib.hid ((VW.new w w.heap.size a1 a2 a3 24 rfl).alloc (.cells #[.int .i64 0, .int .i64 0, .int .i64 0] 24))
  have R0 := Lib.hid (VW.new (w.alloc (.cells #[.int .i64 a1, .int .i64 a2, .int .i64 a3] 24)) (w.heap.size + 1) 0 0 0 24 (by simp))
  have L0 : Below w.heap.size w ((w.alloc (.cells #[.int .i64 a1, .int .i64 a2, .int .i64 a3] 24)).alloc (.cells #[.int .i64 0, .int .i64 0, .int .i64 0] 24)) := by repeat (first | exact Below.refl _ _ | assumption | refine Below.setCell ?_ (by first | omega | (simp; done) | (simp; omega)) _ | refine Below.alloc ?_ (by first | omega | (simp; done) | (simp; omega)) _ | refine below_drewN ?_ _ | refine Below.drew ?_ | refine Below.trans ?_ (Below.mono (by assumption) (by first | omega | (simp; done) | (simp; omega))))
  generalize (w.alloc (.cells #[.int .i64 a1, .int .i64 a2, .int .i64 a3] 24)).alloc (.cells #[.int .i64 0, .int .i64 0, .int .i64 0] 24) = W0 at *
  have P0 := Lib.hid ((P0.out.below L0 P0.out.lt).drew)
  have I0 := Lib.hid ((I0.out.below L0 I0.out.lt).drew)
  have G0 := Lib.hid L0.drew
  have A0 := Lib.hid A0.out.drew
  have R0 := Lib.hid R0.out.drew
  clear L0
  refine wp_region_held_drew (S := fun W => (W.cell? ⟨w.heap.size, 0, none⟩ = some (.int .i64 (a1)) ∧ W.cell? ⟨w.heap.size, 1, none⟩ = some (.int .i64 (a2)) ∧ W.cell? ⟨w.heap.size, 2, none⟩ = some (.int .i64 (a3)))) (by kernel_rfl) A0.out.held (fun hHeld => ?_)
  refine wpAnyH_takeD 0 5 (v := ?_) (by kernel_rfl) (by kernel_rfl) (by kernel_rfl) (by kernel_rfl) (by rfl) (fun _ _ _ h => h) ?_ hHeld ?_
  rotate_left 1
  (intro o ho W hSw; simp only [List.getElem?_toArray, List.getElem?_cons_succ, List.getElem?_cons_zero, Option.some.injEq] at ho; subst ho; (try dsimp only at hSw); go_simp; try with_reducible rfl)
  (try simp only [Act.put, List.setIfInBounds_toArray, List.set_cons_zero, List.set_cons_succ])
  refine wpAnyH_takeD 1 6 (v := ?_) (by kernel_rfl) (by kernel_rfl) (by kernel_rfl) (by kernel_rfl) (by rfl) (fun _ _ _ h => h) ?_ hHeld ?_
  rotate_left 1
  (intro o ho W hSw; simp only [List.getElem?_toArray, List.getElem?_cons_succ, List.getElem?_cons_zero, Option.some.injEq] at ho; subst ho; (try dsimp only at hSw); go_simp; try with_reducible rfl)
  (try simp only [Act.put, List.setIfInBounds_toArray, List.set_cons_zero, List.set_cons_succ])
  refine wpAnyH_takeD 2 7 (v := ?_) (by kernel_rfl) (by kernel_rfl) (by kernel_rfl) (by kernel_rfl) (by rfl) (fun _ _ _ h => h) ?_ hHeld ?_
  rotate_left 1
  (intro o ho W hSw; simp only [List.getElem?_toArray, List.getElem?_cons_succ, List.getElem?_cons_zero, Option.some.injEq] at ho; subst ho; (try dsimp only at hSw); go_simp; try with_reducible rfl)
  (try simp only [Act.put, List.setIfInBounds_toArray, List.set_cons_zero, List.set_cons_succ])
  refine wpAnyH_takeD 4 9 (v := ?_) (by kernel_rfl) (by kernel_rfl) (by kernel_rfl) (by kernel_rfl) (by rfl) (fun _ _ _ h => h) ?_ hHeld ?_
  rotate_left 1
  (intro o ho W hSw; simp only [List.getElem?_toArray, List.getElem?_cons_succ, List.getElem?_cons_zero, Option.some.injEq] at ho; subst ho; (try dsimp only at hSw); go_simp; try with_reducible rfl)
  (try simp only [Act.put, List.setIfInBounds_toArray, List.set_cons_zero, List.set_cons_succ])
  refine wpAnyH_takeD 5 10 (v := ?_) (by kernel_rfl) (by kernel_rfl) (by kernel_rfl) (by kernel_rfl) (by rfl) (fun _ _ _ h => h) ?_ hHeld ?_
  rotate_left 1
  (intro o ho W hSw; simp only [List.getElem?_toArray, List.getElem?_cons_succ, List.getElem?_cons_zero, Option.some.injEq] at ho; subst ho; (try dsimp only at hSw); go_simp; try with_reducible rfl)
  (try simp only [Act.put, List.setIfInBounds_toArray, List.set_cons_zero, List.set_cons_succ])
  refine wpAnyH_takeD 6 11 (v := ?_) (by kernel_rfl) (by kernel_rfl) (by kernel_rfl) (by kernel_rfl) (by rfl) (fun _ _ _ h => h) ?_ hHeld ?_
  rotate_left 1
  (intro o ho W hSw; simp only [List.getElem?_toArray, List.getElem?_cons_succ, List.getElem?_cons_zero, Option.some.injEq] at ho; subst ho; (try dsimp only at hSw); go_simp; try with_reducible rfl)
  (try simp only [Act.put, List.setIfInBounds_toArray, List.set_cons_zero, List.set_cons_succ])
  refine wpAnyH_takeD 8 13 (v := ?_) (by kernel_rfl) (by kernel_rfl) (by kernel_rfl) (by kernel_rfl) (by rfl) (fun _ _ _ h => h) ?_ hHeld ?_
  rotate_left 1
  (intro o ho W hSw; simp only [List.getElem?_toArray, List.getElem?_cons_succ, List.getElem?_cons_zero, Option.some.injEq] at ho; subst ho; (try dsimp only at hSw); go_simp; try with_reducible rfl)
  (try simp only [Act.put, List.setIfInBounds_toArray, List.set_cons_zero, List.set_cons_succ])
  refine wpAnyH_takeD 9 14 (v := ?_) (by kernel_rfl) (by kernel_rfl) (by kernel_rfl) (by kernel_rfl) (by rfl) (fun _ _ _ h => h) ?_ hHeld ?_
  rotate_left 1
  (intro o ho W hSw; simp only [List.getElem?_toArray, List.getElem?_cons_succ, List.getElem?_cons_zero, Option.some.injEq] at ho; subst ho; (try dsimp only at hSw); go_simp; try with_reducible rfl)
  (try simp only [Act.put, List.setIfInBounds_toArray, List.set_cons_zero, List.set_cons_succ])
  refine wpAnyH_takeD 10 15 (v := ?_) (by kernel_rfl) (by kernel_rfl) (by kernel_rfl) (by kernel_rfl) (by rfl) (fun _ _ _ h => h) ?_ hHeld ?_
  rotate_left 1
  (intro o ho W hSw; simp only [List.getElem?_toArray, List.getElem?_cons_succ, List.getElem?_cons_zero, Option.some.injEq] at ho; subst ho; (try dsimp only at hSw); go_simp; try with_reducible rfl)
  (try simp only [Act.put, List.setIfInBounds_toArray, List.set_cons_zero, List.set_cons_succ])
  refine wpAnyH_onlyD 3 (by kernel_rfl) (fun o ho K hK => ?_) (by kernel_rfl)
  simp only [List.getElem?_toArray, List.getElem?_cons_succ, List.getElem?_cons_zero, Option.some.injEq] at ho
  subst ho
  go_simp
  refine (cScale_nil a1 s n j _ HA.out.x0 HA.out.x1 s0 s1 P0.out I0.out).mono ?_
  rintro e w1 ⟨rfl, h⟩
  have G1 := Lib.hid (G0.out.trans (h.mono G0.out.size))
  have A1 := Lib.hid (A0.out.below h A0.out.lt)
  (try have B1 := Lib.hid (B0.out.below h B0.out.lt))
  (try have R1 := Lib.hid (R0.out.below h R0.out.lt))
  (try have P1 := Lib.hid (P0.out.below h P0.out.lt))
  (try have I1 := Lib.hid (I0.out.below h I0.out.lt))
  go_wp2_with fail
  refine hK.out _ _ (A1.out.held) ?_
  clear hK K hHeld
  intro hHeld
  clear h G0 A0
  (try clear B0)
  (try clear R0)
  (try clear P0)
  (try clear I0)
  refine wpAnyH_onlyD 7 (by kernel_rfl) (fun o ho K hK => ?_) (by kernel_rfl)
  simp only [List.getElem?_toArray, List.getElem?_cons_succ, List.getElem?_cons_zero, Option.some.injEq] at ho
  subst ho
  go_simp
  refine (cScale_nil a2 s n j _ HA.out.y0 HA.out.y1 s0 s1 P1.out I1.out).mono ?_
  rintro e w2 ⟨rfl, h⟩
  have G2 := Lib.hid (G1.out.trans (h.mono G1.out.size))
  have A2 := Lib.hid (A1.out.below h A1.out.lt)
  (try have B2 := Lib.hid (B1.out.below h B1.out.lt))
  (try have R2 := Lib.hid (R1.out.below h R1.out.lt))
  (try have P2 := Lib.hid (P1.out.below h P1.out.lt))
  (try have I2 := Lib.hid (I1.out.below h I1.out.lt))
  go_wp2_with fail
  refine hK.out _ _ (A2.out.held) ?_
  clear hK K hHeld
  intro hHeld
  clear h G1 A1
  (try clear B1)
  (try clear R1)
  (try clear P1)
  (try clear I1)
  refine wpAnyH_onlyD 11 (by kernel_rfl) (fun o ho K hK => ?_) (by kernel_rfl)
  simp only [List.getElem?_toArray, List.getElem?_cons_succ, List.getElem?_cons_zero, Option.some.injEq] at ho
  subst ho
  go_simp
  refine (cScale_nil a3 s n j _ HA.out.z0 HA.out.z1 s0 s1 P2.out I2.out).mono ?_
  rintro e w3 ⟨rfl, h⟩
  have G3 := Lib.hid (G2.out.trans (h.mono G2.out.size))
  have A3 := Lib.hid (A2.out.below h A2.out.lt)
  (try have B3 := Lib.hid (B2.out.below h B2.out.lt))
  (try have R3 := Lib.hid (R2.out.below h R2.out.lt))
  (try have P3 := Lib.hid (P2.out.below h P2.out.lt))
  (try have I3 := Lib.hid (I2.out.below h I2.out.lt))
  go_wp2_with fail
  refine hK.out _ _ (A3.out.held) ?_
  clear hK K hHeld
  intro hHeld
  clear h G2 A2
  (try clear B2)
  (try clear R2)
  (try clear P2)
  (try clear I2)
  refine wpAnyH_takeD 12 17 (v := ?_) (by kernel_rfl) (by kernel_rfl) (by kernel_rfl) (by kernel_rfl) (by rfl) (fun _ _ _ h => h) ?_ hHeld ?_
  rotate_left 1
  (intro o ho W hSw; simp only [List.getElem?_toArray, List.getElem?_cons_succ, List.getElem?_cons_zero, Option.some.injEq] at ho; subst ho; (try dsimp only at hSw); go_simp; try with_reducible rfl)
  (try simp only [Act.put, List.setIfInBounds_toArray, List.set_cons_zero, List.set_cons_succ])
  have r0 := R3.out.c0
  have r1 := R3.out.c1
  have r2 := R3.out.c2
  have rf := R3.out.f
  refine wpAnyH_onlyD 13 (by kernel_rfl) (fun o ho K hK => ?_) (by kernel_rfl)
  simp only [List.getElem?_toArray, List.getElem?_cons_succ, List.getElem?_cons_zero, Option.some.injEq] at ho
  subst ho
  go_simp
  refine hK.out _ _ ((((A3.out.far (by omega) _ _).far (by omega) _ _).far (by omega) _ _).held) ?_
  clear hK K hHeld
  intro hHeld
  refine wpAnyH_done (by kernel_rfl) ?_ _
  go_wp2
  exact bodyPost_ret (v := .agg #[.int .i64 (mulF a1 s), .int .i64 (mulF a2 s), .int .i64 (mulF a3 s)]) (by simp [results, Try.results48, go_sem, r0, r1, r2]) rfl ⟨rfl, below_put3 G3.out (by omega) _ _ _⟩
set_option maxHeartbeats 2000000 in
theorem VAdd_nil (a1 a2 a3 b1 b2 b3 : Int) (w : World) (ha : In3 a1 a2 a3) (hb : In3 b1 b2 b3) :
    Calls Try.prog 18 #[.pointer none, .agg #[.int .i64 a1, .int .i64 a2, .int .i64 a3], .agg #[.int .i64 b1, .int .i64 b2, .int .i64 b3]] w fun e w' => e = .returned (.agg #[.int .i64 (addF a1 b1), .int .i64 (addF a2 b2), .int .i64 (addF a3 b3)]) ∧ Below w.heap.size w w' := by
  have HA := Lib.hid ha
  have HB := Lib.hid hb
  clear ha hb
  have hmf : ∀ (fn : Fn) (first cap : Array Value) (w : World), (Instr.makeFunc fn first cap).run Try.prog w = .ok (.func fn first cap) w := fun _ _ _ _ => rfl
  go_enter Try.func18, Try.ntmps18
  go_wp2_with fail
  refine calls_gen (S := fun W => NB W w.heap.size ∧ VW W (w.heap.size + 1 + 1 + 1) 0 0 0 ∧ Below w.heap.size w W) ⟨(((NB.new w _).alloc _).alloc _).alloc _, VW.new _ _ 0 0 0 _ (by simp), by repeat (first | exact Below.refl _ _ | assumption | refine Below.setCell ?_ (by first | omega | (simp; done) | (simp; omega)) _ | refine Below.alloc ?_ (by first | omega | (simp; done) | (simp; omega)) _ | refine below_drewN ?_ _ | refine Below.drew ?_ | refine Below.trans ?_ (Below.mono (by assumption) (by first | omega | (simp; done) | (simp; omega))))⟩ (fun W0 hS => ?_)
  have P0 := Lib.hid hS.1
  have R0 := Lib.hid hS.2.1
  have G0 := Lib.hid hS.2.2
  clear hS
  refine (pwAdd_nil a1 a2 a3 b1 b2 b3 _ _ HA.out HB.out P0.out).mono ?_
  rintro e w1 ⟨rfl, h⟩
  have G1 := Lib.hid (G0.out.trans (h.mono G0.out.size))
  have R1 := Lib.hid (R0.out.below h R0.out.lt)
  clear h G0 R0
  have r0 := R1.out.c0
  have r1 := R1.out.c1
  have r2 := R1.out.c2
  have rf := R1.out.f
  go_wp2
  exact bodyPost_ret (v := .agg #[.int .i64 (addF a1 b1), .int .i64 (addF a2 b2), .int .i64 (addF a3 b3)]) (by simp [results, Try.results18, go_sem, r0, r1, r2]) rfl ⟨rfl, below_put3 G1.out (by omega) _ _ _⟩
set_option maxHeartbeats 2000000 in
theorem VScale_nil (a1 a2 a3 s : Int) (w : World) (ha : In3 a1 a2 a3) (s0 : -9223372036854775808 ≤ s) (s1 : s ≤ 9223372036854775807) :
    Calls Try.prog 19 #[.pointer none, .agg #[.int .i64 a1, .int .i64 a2, .int .i64 a3], .int .i64 s] w fun e w' => e = .returned (.agg #[.int .i64 (mulF a1 s), .int .i64 (mulF a2 s), .int .i64 (mulF a3 s)]) ∧ Below w.heap.size w w' := by
  have HA := Lib.hid ha
  clear ha
  have hmf : ∀ (fn : Fn) (first cap : Array Value) (w : World), (Instr.makeFunc fn first cap).run Try.prog w = .ok (.func fn first cap) w := fun _ _ _ _ => rfl
  go_enter Try.func19, Try.ntmps19
  go_wp2_with fail
  refine calls_gen (S := fun W => NB W w.heap.size ∧ IB W (w.heap.size + 1 + 1) s ∧ VW W (w.heap.size + 1 + 1 + 1) 0 0 0 ∧ Below w.heap.size w W) ⟨(((NB.new w _).alloc _).alloc _).alloc _, (IB.new _ _ s _ (by simp)).alloc _, VW.new _ _ 0 0 0 _ (by simp), by repeat (first | exact Below.refl _ _ | assumption | refine Below.setCell ?_ (by first | omega | (simp; done) | (simp; omega)) _ | refine Below.alloc ?_ (by first | omega | (simp; done) | (simp; omega)) _ | refine below_drewN ?_ _ | refine Below.drew ?_ | refine Below.trans ?_ (Below.mono (by assumption) (by first | omega | (simp; done) | (simp; omega))))⟩ (fun W0 hS => ?_)
  have P0 := Lib.hid hS.1
  have I0 := Lib.hid hS.2.1
  have R0 := Lib.hid hS.2.2.1
  have G0 := Lib.hid hS.2.2.2
  clear hS
  refine (eaScale_nil a1 a2 a3 s _ _ _ HA.out s0 s1 P0.out I0.out).mono ?_
  rintro e w1 ⟨rfl, h⟩
  have G1 := Lib.hid (G0.out.trans (h.mono G0.out.size))
  have R1 := Lib.hid (R0.out.below h R0.out.lt)
  clear h G0 R0
  have r0 := R1.out.c0
  have r1 := R1.out.c1
  have r2 := R1.out.c2
  have rf := R1.out.f
  go_wp2
  exact bodyPost_ret (v := .agg #[.int .i64 (mulF a1 s), .int .i64 (mulF a2 s), .int .i64 (mulF a3 s)]) (by simp [results, Try.results19, go_sem, r0, r1, r2]) rfl ⟨rfl, below_put3 G1.out (by omega) _ _ _⟩
set_option maxHeartbeats 2000000 in
theorem VUnit_nil (a1 a2 a3 n : Int) (w : World) (c : a1 * a1 + a2 * a2 + a3 * a3 < 85070591730234615865843651857942052864) (ha : In3 a1 a2 a3) (hn : lenF (a1 * a1 + a2 * a2 + a3 * a3) = n) (n0 : n ≠ 0) :
    Calls Try.prog 44 #[.pointer none, .agg #[.int .i64 a1, .int .i64 a2, .int .i64 a3]] w fun e w' => e = .returned (.tuple #[.agg #[.int .i64 (divF a1 n), .int .i64 (divF a2 n), .int .i64 (divF a3 n)], .bool true]) ∧ Below w.heap.size w w' := by
  have U := Lib.hid (fun (W : World) => Unit3_nil a1 a2 a3 n W c hn n0 ha.x0 ha.x1 ha.y0 ha.y1 ha.z0 ha.z1)
  generalize divF a1 n = p at *
  generalize divF a2 n = q at *
  generalize divF a3 n = r at *
  clear c hn n0 ha
  go_enter Try.func44, Try.ntmps44
  go_wp2_with fail
  refine calls_gen (S := fun W => VW W (w.heap.size + 1) 0 0 0 ∧ Below w.heap.size w W) ⟨VW.new _ _ 0 0 0 _ (by simp), by repeat (first | exact Below.refl _ _ | assumption | refine Below.setCell ?_ (by first | omega | (simp; done) | (simp; omega)) _ | refine Below.alloc ?_ (by first | omega | (simp; done) | (simp; omega)) _ | refine below_drewN ?_ _ | refine Below.drew ?_ | refine Below.trans ?_ (Below.mono (by assumption) (by first | omega | (simp; done) | (simp; omega))))⟩ (fun W0 hS => ?_)
  have R0 := Lib.hid hS.1
  have G0 := Lib.hid hS.2
  clear hS
  refine (U.out _).mono ?_
  rintro e w1 ⟨rfl, h⟩
  have G1 := Lib.hid (G0.out.trans (h.mono G0.out.size))
  have R1 := Lib.hid (R0.out.below h R0.out.lt)
  clear h G0 R0
  have r0 := R1.out.c0
  have r1 := R1.out.c1
  have r2 := R1.out.c2
  have rf := R1.out.f
  go_wp2
  exact bodyPost_ret (v := .tuple #[.agg #[.int .i64 p, .int .i64 q, .int .i64 r], .bool true]) (by simp [results, Try.results44, go_sem, r0, r1, r2]) rfl ⟨rfl, below_put3 G1.out (by omega) _ _ _⟩
end Go.Proofs.Ytinahmhiopgcnaa
namespace Go.Proofs.Ytinahmhiopgcnaa
open Go.RowKit
set_option linter.unusedVariables false
set_option linter.unusedSimpArgs false

set_option maxRecDepth 100000 in
set_option maxHeartbeats 4000000 in
theorem fSlopes_nil (t : Trk) (c r : Int) (up : Bool) (lo top f hb gb hc gc : Nat) (w : World) (P : FX lo top w f hb gb hc gc t) (ok : okC t c r) :
    Calls Try.prog 36 #[.pointer (some ⟨f, 0, none⟩), .pointer none, .int .i64 c, .int .i64 r, .bool up] w fun e w' => e = .returned (.tuple #[.int .i64 (slaF t c r up), .int .i64 (slbF t c r up)]) ∧ Below w.heap.size w w' := by
  have G0 := Lib.hid (FS.mk (w := w) P (Below.refl _ _))
  have VH := Lib.hid (fun (W : World) (Q : FX lo top W f hb gb hc gc t) => fHas_any t c r lo top f hb gb hc gc W Q)
  obtain ⟨qa, ha⟩ : ∃ q, slaF t c r up = q := ⟨_, rfl⟩
  obtain ⟨qb, hbb⟩ : ∃ q, slbF t c r up = q := ⟨_, rfl⟩
  rw [ha, hbb]
  obtain ⟨hcn, hf⟩ := P.r
  clear P
  rw [decide_eq_true ok] at VH
  have VF := Lib.hid (fun (W : World) (Q : FX lo top W f hb gb hc gc t) => fFirst_any t c r lo top f hb gb hc gc W Q ok)
  have CR := cell_right hcn hf ok
  have NA := Lib.hid (show slA t.cell (h00 t c r) (h10 t c r) (h01 t c r) (h11 t c r) up = qa by rw [← ha]; unfold slaF; rw [if_pos ok])
  have NB := Lib.hid (show slB t.cell (h00 t c r) (h10 t c r) (h01 t c r) (h11 t c r) up = qb by rw [← hbb]; unfold slbF; rw [if_pos ok])
  clear ha hbb
  obtain ⟨-, hN, hl, h4⟩ := at_is hcn ok
  obtain ⟨⟨m1, -⟩, -, -, -, -⟩ := hcn
  obtain ⟨m10, m11⟩ := m1
  unfold h00 h10 h01 h11 at *
  generalize atC t c r = N at *
  obtain ⟨n1, e1⟩ : ∃ n, N + 1 = n := ⟨_, rfl⟩
  obtain ⟨n2, e2⟩ : ∃ n, N + t.cols.toNat + 1 = n := ⟨_, rfl⟩
  obtain ⟨n3, e3⟩ : ∃ n, N + t.cols.toNat + 2 = n := ⟨_, rfl⟩
  rw [e1, e2, e3] at CR NA NB
  have x1 : (N : Int) + 1 = (n1 : Int) := by omega
  have x2 : (N : Int) + t.cols + 1 = (n2 : Int) := by omega
  have x3 : (n2 : Int) + 1 = (n3 : Int) := by omega
  have l1 : (n1 : Int) < (t.H.n : Int) := by omega
  have l2 : (n2 : Int) < (t.H.n : Int) := by omega
  have l3 : (n3 : Int) < (t.H.n : Int) := by omega
  have l0 : (N : Int) < (t.H.n : Int) := by omega
  have z0 : (0 : Int) ≤ (N : Int) := by omega
  have z1 : (0 : Int) ≤ (n1 : Int) := by omega
  have z2 : (0 : Int) ≤ (n2 : Int) := by omega
  have z3 : (0 : Int) ≤ (n3 : Int) := by omega
  clear e1 e2 e3 hl hf ok hN
  obtain ⟨k0, k1, ⟨⟨a0, a1⟩, ⟨b0, b1⟩, ⟨g0, g1⟩, ⟨f0, f1⟩⟩, X0, X1, Y0, Y1⟩ := CR
  obtain ⟨u1, v1⟩ := wrap_in' (n := t.H.v n1 - t.H.v N) (by unfold In64; omega)
  obtain ⟨u2, v2⟩ := wrap_in' (n := t.H.v n3 - t.H.v n1) (by unfold In64; omega)
  obtain ⟨u3, v3⟩ := wrap_in' (n := t.H.v n3 - t.H.v n2) (by unfold In64; omega)
  obtain ⟨u4, v4⟩ := wrap_in' (n := t.H.v n2 - t.H.v N) (by unfold In64; omega)
  cases up
  · unfold slA at NA
    unfold slB at NB
    rw [if_neg (by simp)] at NA NB
    have JA := Lib.hid (fun (W : World) => fxDiv_nil (t.H.v n1 - t.H.v N) t.cell W (by omega) (by omega) (by omega) (by omega))
    have JB := Lib.hid (fun (W : World) => fxDiv_nil (t.H.v n3 - t.H.v n1) t.cell W (by omega) (by omega) (by omega) (by omega))
    have EA := Lib.hid (show divF (t.H.v n1 - t.H.v N) t.cell = qa from NA.out)
    have EB := Lib.hid (show divF (t.H.v n3 - t.H.v n1) t.cell = qb from NB.out)
    clear NA NB
    rw [EA.out] at JA
    rw [EB.out] at JB
    clear EA EB
    go_enter Try.func36, Try.ntmps36
    go_wp2_with fail
    refine (VH.out _ G0.out.p).mono ?_
    rintro e w1 ⟨rfl, h⟩
    have G1 := Lib.hid (G0.out.step h)
    clear h G0 VH
    go_wp2_with fail
    refine (VF.out _ G1.out.p).mono ?_
    rintro e x ⟨rfl, hx⟩
    obtain rfl := hx.symm
    clear hx VF
    obtain ⟨-, c1, -, -, -, c5, -⟩ := G1.out.p.cs
    have d0 := G1.out.p.h N (by omega)
    have d1 := G1.out.p.h n1 (by omega)
    have d2 := G1.out.p.h n2 (by omega)
    have d3 := G1.out.p.h n3 (by omega)
    go_wp2
    go_quiet (fail)
    go_wp2
    refine wp_gen (S := fun W => FS w lo top W f hb gb hc gc t) (G1.out.step (by first | exact below_drewN (below_drewN (Below.refl _ _) _) _ | exact below_drewN (Below.refl _ _) _)) (fun W1 hS => ?_)
    have G2 := Lib.hid (hS.step ((Below.refl _ _).drew))
    clear hS G1 c1 c5 d0 d1 d2 d3
    refine wp_region_held_drew (S := fun W => W.cell? ⟨f, 0, none⟩ = some (.int .i64 t.cell)) (by kernel_rfl) (G2.out.p.cs.1) (fun hHeld => ?_)
    generalize World.drew _ = w2 at *
    refine wpAnyH_takeD 0 97 (v := ?_) (by kernel_rfl) (by kernel_rfl) (by kernel_rfl) (by kernel_rfl) (by rfl) (fun _ _ _ h => h) ?_ hHeld ?_
    rotate_left 1
    (intro o ho W hSw; simp only [List.getElem?_toArray, List.getElem?_cons_succ, List.getElem?_cons_zero, Option.some.injEq] at ho; subst ho; (try dsimp only at hSw); go_simp; try with_reducible rfl)
    (try simp only [Act.put, List.setIfInBounds_toArray, List.set_cons_zero, List.set_cons_succ])
    refine wpAnyH_takeD 1 98 (v := ?_) (by kernel_rfl) (by kernel_rfl) (by kernel_rfl) (by kernel_rfl) (by rfl) (fun _ _ _ h => h) ?_ hHeld ?_
    rotate_left 1
    (intro o ho W hSw; simp only [List.getElem?_toArray, List.getElem?_cons_succ, List.getElem?_cons_zero, Option.some.injEq] at ho; subst ho; (try dsimp only at hSw); go_simp; try with_reducible rfl)
    (try simp only [Act.put, List.setIfInBounds_toArray, List.set_cons_zero, List.set_cons_succ])
    refine wpAnyH_takeD 2 99 (v := ?_) (by kernel_rfl) (by kernel_rfl) (by kernel_rfl) (by kernel_rfl) (by rfl) (fun _ _ _ h => h) ?_ hHeld ?_
    rotate_left 1
    (intro o ho W hSw; simp only [List.getElem?_toArray, List.getElem?_cons_succ, List.getElem?_cons_zero, Option.some.injEq] at ho; subst ho; (try dsimp only at hSw); go_simp; try with_reducible rfl)
    (try simp only [Act.put, List.setIfInBounds_toArray, List.set_cons_zero, List.set_cons_succ])
    refine wpAnyH_takeD 3 100 (v := ?_) (by kernel_rfl) (by kernel_rfl) (by kernel_rfl) (by kernel_rfl) (by rfl) (fun _ _ _ h => h) ?_ hHeld ?_
    rotate_left 1
    (intro o ho W hSw; simp only [List.getElem?_toArray, List.getElem?_cons_succ, List.getElem?_cons_zero, Option.some.injEq] at ho; subst ho; (try dsimp only at hSw); go_simp; try with_reducible rfl)
    (try simp only [Act.put, List.setIfInBounds_toArray, List.set_cons_zero, List.set_cons_succ])
    refine wpAnyH_takeD 4 101 (v := ?_) (by kernel_rfl) (by kernel_rfl) (by kernel_rfl) (by kernel_rfl) (by rfl) (fun _ _ _ h => h) ?_ hHeld ?_
    rotate_left 1
    (intro o ho W hSw; simp only [List.getElem?_toArray, List.getElem?_cons_succ, List.getElem?_cons_zero, Option.some.injEq] at ho; subst ho; (try dsimp only at hSw); go_simp; try with_reducible rfl)
    (try simp only [Act.put, List.setIfInBounds_toArray, List.set_cons_zero, List.set_cons_succ])
    refine wpAnyH_takeD 5 102 (v := ?_) (by kernel_rfl) (by kernel_rfl) (by kernel_rfl) (by kernel_rfl) (by rfl) (fun _ _ _ h => h) ?_ hHeld ?_
    rotate_left 1
    (intro o ho W hSw; simp only [List.getElem?_toArray, List.getElem?_cons_succ, List.getElem?_cons_zero, Option.some.injEq] at ho; subst ho; (try dsimp only at hSw); go_simp; try with_reducible rfl)
    (try simp only [Act.put, List.setIfInBounds_toArray, List.set_cons_zero, List.set_cons_succ])
    refine wpAnyH_takeD 7 104 (v := ?_) (by kernel_rfl) (by kernel_rfl) (by kernel_rfl) (by kernel_rfl) (by rfl) (fun _ _ _ h => h) ?_ hHeld ?_
    rotate_left 1
    (intro o ho W hSw; simp only [List.getElem?_toArray, List.getElem?_cons_succ, List.getElem?_cons_zero, Option.some.injEq] at ho; subst ho; (try dsimp only at hSw); go_simp; try with_reducible rfl)
    (try simp only [Act.put, List.setIfInBounds_toArray, List.set_cons_zero, List.set_cons_succ])
    refine wpAnyH_takeD 8 105 (v := ?_) (by kernel_rfl) (by kernel_rfl) (by kernel_rfl) (by kernel_rfl) (by rfl) (fun _ _ _ h => h) ?_ hHeld ?_
    rotate_left 1
    (intro o ho W hSw; simp only [List.getElem?_toArray, List.getElem?_cons_succ, List.getElem?_cons_zero, Option.some.injEq] at ho; subst ho; (try dsimp only at hSw); go_simp; try with_reducible rfl)
    (try simp only [Act.put, List.setIfInBounds_toArray, List.set_cons_zero, List.set_cons_succ])
    refine wpAnyH_takeD 9 106 (v := ?_) (by kernel_rfl) (by kernel_rfl) (by kernel_rfl) (by kernel_rfl) (by rfl) (fun _ _ _ h => h) ?_ hHeld ?_
    rotate_left 1
    (intro o ho W hSw; simp only [List.getElem?_toArray, List.getElem?_cons_succ, List.getElem?_cons_zero, Option.some.injEq] at ho; subst ho; (try dsimp only at hSw); go_simp; try with_reducible rfl)
    (try simp only [Act.put, List.setIfInBounds_toArray, List.set_cons_zero, List.set_cons_succ])
    refine wpAnyH_takeD 10 107 (v := ?_) (by kernel_rfl) (by kernel_rfl) (by kernel_rfl) (by kernel_rfl) (by rfl) (fun _ _ _ h => h) ?_ hHeld ?_
    rotate_left 1
    (intro o ho W hSw; simp only [List.getElem?_toArray, List.getElem?_cons_succ, List.getElem?_cons_zero, Option.some.injEq] at ho; subst ho; (try dsimp only at hSw); go_simp; try with_reducible rfl)
    (try simp only [Act.put, List.setIfInBounds_toArray, List.set_cons_zero, List.set_cons_succ])
    refine wpAnyH_takeD 11 108 (v := ?_) (by kernel_rfl) (by kernel_rfl) (by kernel_rfl) (by kernel_rfl) (by rfl) (fun _ _ _ h => h) ?_ hHeld ?_
    rotate_left 1
    (intro o ho W hSw; simp only [List.getElem?_toArray, List.getElem?_cons_succ, List.getElem?_cons_zero, Option.some.injEq] at ho; subst ho; (try dsimp only at hSw); go_simp; try with_reducible rfl)
    (try simp only [Act.put, List.setIfInBounds_toArray, List.set_cons_zero, List.set_cons_succ])
    refine wpAnyH_takeD 12 109 (v := ?_) (by kernel_rfl) (by kernel_rfl) (by kernel_rfl) (by kernel_rfl) (by rfl) (fun _ _ _ h => h) ?_ hHeld ?_
    rotate_left 1
    (intro o ho W hSw; simp only [List.getElem?_toArray, List.getElem?_cons_succ, List.getElem?_cons_zero, Option.some.injEq] at ho; subst ho; (try dsimp only at hSw); go_simp; try with_reducible rfl)
    (try simp only [Act.put, List.setIfInBounds_toArray, List.set_cons_zero, List.set_cons_succ])
    refine wpAnyH_onlyD 6 (by kernel_rfl) (fun o ho K hK => ?_) (by kernel_rfl)
    simp only [List.getElem?_toArray, List.getElem?_cons_succ, List.getElem?_cons_zero, Option.some.injEq] at ho
    subst ho
    go_simp
    refine (JA.out _).mono ?_
    rintro e w3 ⟨rfl, h⟩
    have G3 := Lib.hid (G2.out.step h)
    go_wp2_with fail
    refine hK.out _ _ (G3.out.p.cs.1) ?_
    clear hK K hHeld
    intro hHeld
    clear h G2 JA
    refine wpAnyH_onlyD 13 (by kernel_rfl) (fun o ho K hK => ?_) (by kernel_rfl)
    simp only [List.getElem?_toArray, List.getElem?_cons_succ, List.getElem?_cons_zero, Option.some.injEq] at ho
    subst ho
    go_simp
    refine (JB.out _).mono ?_
    rintro e w4 ⟨rfl, h⟩
    have G4 := Lib.hid (G3.out.step h)
    go_wp2_with fail
    refine hK.out _ _ (G4.out.p.cs.1) ?_
    clear hK K hHeld
    intro hHeld
    clear h G3 JB
    refine wpAnyH_takeD 14 10 (v := ?_) (by kernel_rfl) (by kernel_rfl) (by kernel_rfl) (by kernel_rfl) (by rfl) (fun _ _ _ h => h) ?_ hHeld ?_
    rotate_left 1
    (intro o ho W hSw; simp only [List.getElem?_toArray, List.getElem?_cons_succ, List.getElem?_cons_zero, Option.some.injEq] at ho; subst ho; (try dsimp only at hSw); go_simp; try with_reducible rfl)
    (try simp only [Act.put, List.setIfInBounds_toArray, List.set_cons_zero, List.set_cons_succ])
    refine wpAnyH_takeD 15 11 (v := ?_) (by kernel_rfl) (by kernel_rfl) (by kernel_rfl) (by kernel_rfl) (by rfl) (fun _ _ _ h => h) ?_ hHeld ?_
    rotate_left 1
    (intro o ho W hSw; simp only [List.getElem?_toArray, List.getElem?_cons_succ, List.getElem?_cons_zero, Option.some.injEq] at ho; subst ho; (try dsimp only at hSw); go_simp; try with_reducible rfl)
    (try simp only [Act.put, List.setIfInBounds_toArray, List.set_cons_zero, List.set_cons_succ])
    refine wpAnyH_done (by kernel_rfl) ?_ _
    clear hHeld
    go_wp2
    go_ret2
    exact ⟨rfl, G4.out.l⟩
  · unfold slA at NA
    unfold slB at NB
    rw [if_pos rfl] at NA NB
    have JA := Lib.hid (fun (W : World) => fxDiv_nil (t.H.v n3 - t.H.v n2) t.cell W (by omega) (by omega) (by omega) (by omega))
    have JB := Lib.hid (fun (W : World) => fxDiv_nil (t.H.v n2 - t.H.v N) t.cell W (by omega) (by omega) (by omega) (by omega))
    have EA := Lib.hid (show divF (t.H.v n3 - t.H.v n2) t.cell = qa from NA.out)
    have EB := Lib.hid (show divF (t.H.v n2 - t.H.v N) t.cell = qb from NB.out)
    clear NA NB
    rw [EA.out] at JA
    rw [EB.out] at JB
    clear EA EB
    go_enter Try.func36, Try.ntmps36
    go_wp2_with fail
    refine (VH.out _ G0.out.p).mono ?_
    rintro e w1 ⟨rfl, h⟩
    have G1 := Lib.hid (G0.out.step h)
    clear h G0 VH
    go_wp2_with fail
    refine (VF.out _ G1.out.p).mono ?_
    rintro e x ⟨rfl, hx⟩
    obtain rfl := hx.symm
    clear hx VF
    obtain ⟨-, c1, -, -, -, c5, -⟩ := G1.out.p.cs
    have d0 := G1.out.p.h N (by omega)
    have d1 := G1.out.p.h n1 (by omega)
    have d2 := G1.out.p.h n2 (by omega)
    have d3 := G1.out.p.h n3 (by omega)
    go_wp2
    go_quiet (fail)
    go_wp2
    go_quiet (fail)
    go_wp2
    refine wp_gen (S := fun W => FS w lo top W f hb gb hc gc t) (G1.out.step (by first | exact below_drewN (below_drewN (Below.refl _ _) _) _ | exact below_drewN (Below.refl _ _) _)) (fun W1 hS => ?_)
    have G2 := Lib.hid (hS.step ((Below.refl _ _).drew))
    clear hS G1 c1 c5 d0 d1 d2 d3
    refine wp_region_held_drew (S := fun W => W.cell? ⟨f, 0, none⟩ = some (.int .i64 t.cell)) (by kernel_rfl) (G2.out.p.cs.1) (fun hHeld => ?_)
    generalize World.drew _ = w2 at *
    refine wpAnyH_takeD 0 97 (v := ?_) (by kernel_rfl) (by kernel_rfl) (by kernel_rfl) (by kernel_rfl) (by rfl) (fun _ _ _ h => h) ?_ hHeld ?_
    rotate_left 1
    (intro o ho W hSw; simp only [List.getElem?_toArray, List.getElem?_cons_succ, List.getElem?_cons_zero, Option.some.injEq] at ho; subst ho; (try dsimp only at hSw); go_simp; try with_reducible rfl)
    (try simp only [Act.put, List.setIfInBounds_toArray, List.set_cons_zero, List.set_cons_succ])
    refine wpAnyH_takeD 1 98 (v := ?_) (by kernel_rfl) (by kernel_rfl) (by kernel_rfl) (by kernel_rfl) (by rfl) (fun _ _ _ h => h) ?_ hHeld ?_
    rotate_left 1
    (intro o ho W hSw; simp only [List.getElem?_toArray, List.getElem?_cons_succ, List.getElem?_cons_zero, Option.some.injEq] at ho; subst ho; (try dsimp only at hSw); go_simp; try with_reducible rfl)
    (try simp only [Act.put, List.setIfInBounds_toArray, List.set_cons_zero, List.set_cons_succ])
    refine wpAnyH_takeD 2 99 (v := ?_) (by kernel_rfl) (by kernel_rfl) (by kernel_rfl) (by kernel_rfl) (by rfl) (fun _ _ _ h => h) ?_ hHeld ?_
    rotate_left 1
    (intro o ho W hSw; simp only [List.getElem?_toArray, List.getElem?_cons_succ, List.getElem?_cons_zero, Option.some.injEq] at ho; subst ho; (try dsimp only at hSw); go_simp; try with_reducible rfl)
    (try simp only [Act.put, List.setIfInBounds_toArray, List.set_cons_zero, List.set_cons_succ])
    refine wpAnyH_takeD 3 100 (v := ?_) (by kernel_rfl) (by kernel_rfl) (by kernel_rfl) (by kernel_rfl) (by rfl) (fun _ _ _ h => h) ?_ hHeld ?_
    rotate_left 1
    (intro o ho W hSw; simp only [List.getElem?_toArray, List.getElem?_cons_succ, List.getElem?_cons_zero, Option.some.injEq] at ho; subst ho; (try dsimp only at hSw); go_simp; try with_reducible rfl)
    (try simp only [Act.put, List.setIfInBounds_toArray, List.set_cons_zero, List.set_cons_succ])
    refine wpAnyH_takeD 4 101 (v := ?_) (by kernel_rfl) (by kernel_rfl) (by kernel_rfl) (by kernel_rfl) (by rfl) (fun _ _ _ h => h) ?_ hHeld ?_
    rotate_left 1
    (intro o ho W hSw; simp only [List.getElem?_toArray, List.getElem?_cons_succ, List.getElem?_cons_zero, Option.some.injEq] at ho; subst ho; (try dsimp only at hSw); go_simp; try with_reducible rfl)
    (try simp only [Act.put, List.setIfInBounds_toArray, List.set_cons_zero, List.set_cons_succ])
    refine wpAnyH_takeD 5 102 (v := ?_) (by kernel_rfl) (by kernel_rfl) (by kernel_rfl) (by kernel_rfl) (by rfl) (fun _ _ _ h => h) ?_ hHeld ?_
    rotate_left 1
    (intro o ho W hSw; simp only [List.getElem?_toArray, List.getElem?_cons_succ, List.getElem?_cons_zero, Option.some.injEq] at ho; subst ho; (try dsimp only at hSw); go_simp; try with_reducible rfl)
    (try simp only [Act.put, List.setIfInBounds_toArray, List.set_cons_zero, List.set_cons_succ])
    refine wpAnyH_takeD 7 104 (v := ?_) (by kernel_rfl) (by kernel_rfl) (by kernel_rfl) (by kernel_rfl) (by rfl) (fun _ _ _ h => h) ?_ hHeld ?_
    rotate_left 1
    (intro o ho W hSw; simp only [List.getElem?_toArray, List.getElem?_cons_succ, List.getElem?_cons_zero, Option.some.injEq] at ho; subst ho; (try dsimp only at hSw); go_simp; try with_reducible rfl)
    (try simp only [Act.put, List.setIfInBounds_toArray, List.set_cons_zero, List.set_cons_succ])
    refine wpAnyH_takeD 8 105 (v := ?_) (by kernel_rfl) (by kernel_rfl) (by kernel_rfl) (by kernel_rfl) (by rfl) (fun _ _ _ h => h) ?_ hHeld ?_
    rotate_left 1
    (intro o ho W hSw; simp only [List.getElem?_toArray, List.getElem?_cons_succ, List.getElem?_cons_zero, Option.some.injEq] at ho; subst ho; (try dsimp only at hSw); go_simp; try with_reducible rfl)
    (try simp only [Act.put, List.setIfInBounds_toArray, List.set_cons_zero, List.set_cons_succ])
    refine wpAnyH_takeD 9 106 (v := ?_) (by kernel_rfl) (by kernel_rfl) (by kernel_rfl) (by kernel_rfl) (by rfl) (fun _ _ _ h => h) ?_ hHeld ?_
    rotate_left 1
    (intro o ho W hSw; simp only [List.getElem?_toArray, List.getElem?_cons_succ, List.getElem?_cons_zero, Option.some.injEq] at ho; subst ho; (try dsimp only at hSw); go_simp; try with_reducible rfl)
    (try simp only [Act.put, List.setIfInBounds_toArray, List.set_cons_zero, List.set_cons_succ])
    refine wpAnyH_takeD 10 107 (v := ?_) (by kernel_rfl) (by kernel_rfl) (by kernel_rfl) (by kernel_rfl) (by rfl) (fun _ _ _ h => h) ?_ hHeld ?_
    rotate_left 1
    (intro o ho W hSw; simp only [List.getElem?_toArray, List.getElem?_cons_succ, List.getElem?_cons_zero, Option.some.injEq] at ho; subst ho; (try dsimp only at hSw); go_simp; try with_reducible rfl)
    (try simp only [Act.put, List.setIfInBounds_toArray, List.set_cons_zero, List.set_cons_succ])
    refine wpAnyH_takeD 11 108 (v := ?_) (by kernel_rfl) (by kernel_rfl) (by kernel_rfl) (by kernel_rfl) (by rfl) (fun _ _ _ h => h) ?_ hHeld ?_
    rotate_left 1
    (intro o ho W hSw; simp only [List.getElem?_toArray, List.getElem?_cons_succ, List.getElem?_cons_zero, Option.some.injEq] at ho; subst ho; (try dsimp only at hSw); go_simp; try with_reducible rfl)
    (try simp only [Act.put, List.setIfInBounds_toArray, List.set_cons_zero, List.set_cons_succ])
    refine wpAnyH_takeD 12 109 (v := ?_) (by kernel_rfl) (by kernel_rfl) (by kernel_rfl) (by kernel_rfl) (by rfl) (fun _ _ _ h => h) ?_ hHeld ?_
    rotate_left 1
    (intro o ho W hSw; simp only [List.getElem?_toArray, List.getElem?_cons_succ, List.getElem?_cons_zero, Option.some.injEq] at ho; subst ho; (try dsimp only at hSw); go_simp; try with_reducible rfl)
    (try simp only [Act.put, List.setIfInBounds_toArray, List.set_cons_zero, List.set_cons_succ])
    refine wpAnyH_onlyD 6 (by kernel_rfl) (fun o ho K hK => ?_) (by kernel_rfl)
    simp only [List.getElem?_toArray, List.getElem?_cons_succ, List.getElem?_cons_zero, Option.some.injEq] at ho
    subst ho
    go_simp
    refine (JA.out _).mono ?_
    rintro e w3 ⟨rfl, h⟩
    have G3 := Lib.hid (G2.out.step h)
    go_wp2_with fail
    refine hK.out _ _ (G3.out.p.cs.1) ?_
    clear hK K hHeld
    intro hHeld
    clear h G2 JA
    refine wpAnyH_onlyD 13 (by kernel_rfl) (fun o ho K hK => ?_) (by kernel_rfl)
    simp only [List.getElem?_toArray, List.getElem?_cons_succ, List.getElem?_cons_zero, Option.some.injEq] at ho
    subst ho
    go_simp
    refine (JB.out _).mono ?_
    rintro e w4 ⟨rfl, h⟩
    have G4 := Lib.hid (G3.out.step h)
    go_wp2_with fail
    refine hK.out _ _ (G4.out.p.cs.1) ?_
    clear hK K hHeld
    intro hHeld
    clear h G3 JB
    refine wpAnyH_takeD 14 10 (v := ?_) (by kernel_rfl) (by kernel_rfl) (by kernel_rfl) (by kernel_rfl) (by rfl) (fun _ _ _ h => h) ?_ hHeld ?_
    rotate_left 1
    (intro o ho W hSw; simp only [List.getElem?_toArray, List.getElem?_cons_succ, List.getElem?_cons_zero, Option.some.injEq] at ho; subst ho; (try dsimp only at hSw); go_simp; try with_reducible rfl)
    (try simp only [Act.put, List.setIfInBounds_toArray, List.set_cons_zero, List.set_cons_succ])
    refine wpAnyH_takeD 15 11 (v := ?_) (by kernel_rfl) (by kernel_rfl) (by kernel_rfl) (by kernel_rfl) (by rfl) (fun _ _ _ h => h) ?_ hHeld ?_
    rotate_left 1
    (intro o ho W hSw; simp only [List.getElem?_toArray, List.getElem?_cons_succ, List.getElem?_cons_zero, Option.some.injEq] at ho; subst ho; (try dsimp only at hSw); go_simp; try with_reducible rfl)
    (try simp only [Act.put, List.setIfInBounds_toArray, List.set_cons_zero, List.set_cons_succ])
    refine wpAnyH_done (by kernel_rfl) ?_ _
    clear hHeld
    go_wp2
    go_ret2
    exact ⟨rfl, G4.out.l⟩
theorem up_small {a b : Int} (a0 : -4294967296 ≤ a) (a1 : a ≤ 4294967296) (b0 : -4294967296 ≤ b) (b1 : b ≤ 4294967296) : -a * -a + -b * -b + 4294967296 * 4294967296 < 85070591730234615865843651857942052864 := by
  have p1 := eabs_le (a := -a) (d := -a) (u := 4294967296) (by omega) (by omega) (by omega) (by omega)
  have p2 := eabs_le (a := -b) (d := -b) (u := 4294967296) (by omega) (by omega) (by omega) (by omega)
  omega
set_option maxRecDepth 100000 in
set_option maxHeartbeats 3000000 in
theorem fNormal_nil (t : Trk) (x y : Int) (lo top f hb gb hc gc : Nat) (w : World) (P : FX lo top w f hb gb hc gc t) :
    Calls Try.prog 15 #[.pointer (some ⟨f, 0, none⟩), .pointer none, .int .i64 x, .int .i64 y] w fun e w' => e = .returned (.agg #[.int .i64 (upX (slpA t x y) (slpB t x y)), .int .i64 (upY (slpA t x y) (slpB t x y)), .int .i64 (upZ (slpA t x y) (slpB t x y))]) ∧ Below w.heap.size w w' := by
  have G0 := Lib.hid (FS.mk (w := w) P (Below.refl _ _))
  obtain ⟨hcn, hf⟩ := P.r
  have SI := slp_in hcn hf x y
  have ok := wh_ok hcn x y
  have VX := Lib.hid (fun (W : World) (Q : FX lo top W f hb gb hc gc t) => fWhere_any t x y lo top f hb gb hc gc W Q)
  have VS := Lib.hid (fun (W : World) (Q : FX lo top W f hb gb hc gc t) => fSlopes_nil t (whK t x) (whR t y) (decide (whX t x < whY t y)) lo top f hb gb hc gc W Q ok)
  have ea : slaF t (whK t x) (whR t y) (decide (whX t x < whY t y)) = slpA t x y := rfl
  have eb : slbF t (whK t x) (whR t y) (decide (whX t x < whY t y)) = slpB t x y := rfl
  rw [ea, eb] at VS
  clear ea eb hcn hf P ok
  generalize slpA t x y = a1 at *
  generalize slpB t x y = a2 at *
  generalize whK t x = c at *
  generalize whR t y = r at *
  generalize whX t x = dx at *
  generalize whY t y = dy at *
  obtain ⟨⟨h1, h2⟩, h3, h4⟩ := SI
  obtain ⟨hz, -, -, -, -, -, -, -⟩ := up_is h1 h2 h3 h4
  have i1 : subF 0 a1 = -a1 := by have := (clip64_of (n := 0 - a1) (by unfold In64; omega)).1; unfold subF; rw [this]; omega
  have i2 : subF 0 a2 = -a2 := by have := (clip64_of (n := 0 - a2) (by unfold In64; omega)).1; unfold subF; rw [this]; omega
  have sm := up_small h1 h2 h3 h4
  obtain ⟨u1, v1⟩ := wrap_in' (n := -a1) (by unfold In64; omega)
  obtain ⟨u2, v2⟩ := wrap_in' (n := -a2) (by unfold In64; omega)
  have U := Lib.hid (fun (W : World) => VUnit_nil (-a1) (-a2) 4294967296 (upN a1 a2) W sm ⟨by omega, by omega, by omega, by omega, by omega, by omega⟩ (by unfold upN; rw [i1, i2]) hz)
  unfold upX upY upZ
  rw [i1, i2]
  generalize divF (-a1) (upN a1 a2) = n1 at *
  generalize divF (-a2) (upN a1 a2) = n2 at *
  generalize divF 4294967296 (upN a1 a2) = n3 at *
  clear hz i1 i2 sm
  go_enter Try.func15, Try.ntmps15
  go_wp2_with fail
  refine calls_gen (S := fun W => FS w lo top W f hb gb hc gc t ∧ VW W w.heap.size 0 0 0) ⟨G0.out.step ((Below.refl _ _).alloc (Nat.le_refl _) _), VW.new _ _ 0 0 0 _ rfl⟩ (fun W1 hS => ?_)
  have G1 := Lib.hid hS.1
  have R1 := Lib.hid hS.2
  clear hS G0
  refine (VX.out _ G1.out.p).mono ?_
  rintro e w2 ⟨rfl, h⟩
  have G2 := Lib.hid (G1.out.step h)
  have R2 := Lib.hid (R1.out.below h R1.out.lt)
  clear h G1 R1 VX
  go_wp2_with fail
  refine (VS.out _ G2.out.p).mono ?_
  rintro e w3 ⟨rfl, h⟩
  have G3 := Lib.hid (G2.out.step h)
  have R3 := Lib.hid (R2.out.below h R2.out.lt)
  clear h G2 R2 VS
  go_wp2_with fail
  refine (U.out _).mono ?_
  rintro e w4 ⟨rfl, h⟩
  have G4 := Lib.hid (G3.out.step h)
  have R4 := Lib.hid (R3.out.below h R3.out.lt)
  clear h G3 R3 U u1 v1 u2 v2
  have R5 := Lib.hid (R4.out.alloc (.cells #[.int .i64 n1, .int .i64 n2, .int .i64 n3] 24))
  have B5 := Lib.hid (G4.out.l.alloc G4.out.l.size (.cells #[.int .i64 n1, .int .i64 n2, .int .i64 n3] 24))
  have r0 := R5.out.c0
  have r1 := R5.out.c1
  have r2 := R5.out.c2
  have rf := R5.out.f
  go_wp2
  exact bodyPost_ret (v := .agg #[.int .i64 n1, .int .i64 n2, .int .i64 n3]) (by simp [results, Try.results15, go_sem, r0, r1, r2]) rfl ⟨rfl, below_put3 B5.out (by omega) _ _ _⟩
end Go.Proofs.Ytinahmhiopgcnaa
