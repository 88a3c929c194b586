/- The walk of TrigRound. -/
import Derived.Test.YtjjfeehfgikobaaIf
import Derived.Test.YtjjfeehfgikobaaBk
namespace Go.Proofs.Ytjjfeehfgikobaa
open Go.RowKit
set_option linter.unusedVariables false
set_option linter.unusedSimpArgs false

theorem isW_m64 : IsW (-1) 0 (-18446744073709551616) := ⟨by omega, by omega, by omega, by omega, by omega⟩
theorem cmp_le' {a b : Int} (h : a ≤ b) : cmpI a b ≤ 0 := by unfold cmpI; split <;> (try split) <;> omega
theorem cmp_ge' {a b : Int} (h : b ≤ a) : 0 ≤ cmpI a b := by unfold cmpI; split <;> (try split) <;> omega
set_option maxHeartbeats 4000000 in
theorem tround_walk (C : TrigC) (t : Int) (w : World) (t0 : 0 ≤ t) (t1 : t ≤ 4294967295) :
    Calls Try.prog 8 #[.int .u32 t] w fun e w' => e = .returned (.bool true) ∧ Below w.heap.size w w' := by
  have R := sin_cos_round t0 (show t < 4294967296 by omega)
  have b := sin_64 t0
  obtain ⟨s, hs⟩ : ∃ s, sinF t = s := ⟨_, rfl⟩
  obtain ⟨c, hc⟩ : ∃ c, cosF t = c := ⟨_, rfl⟩
  rw [hs, hc] at R b
  obtain ⟨S, hS⟩ : ∃ S, s * s + c * c = S := ⟨_, rfl⟩
  obtain ⟨d, hd⟩ : ∃ d, S + -18446744073709551616 = d := ⟨_, rfl⟩
  rw [hS] at R
  have I1 := Lib.hid (mul_128 (a := s) (b := s) (by omega) (by omega) (by omega) (by omega))
  have I2 := Lib.hid (mul_128 (a := c) (b := c) (by omega) (by omega) (by omega) (by omega))
  have IS := Lib.hid (show In128 S by unfold In128; omega)
  have ID := Lib.hid (show In128 d by unfold In128; omega)
  have i3 : In128 36028797018963968 := by unfold In128; omega
  have i4 : In128 (-36028797018963968) := by unfold In128; omega
  have k1 := cmp_le' (show d ≤ 36028797018963968 by omega)
  have k2 := cmp_ge' (show -36028797018963968 ≤ d by omega)
  have CL := Lib.hid (show clipW (S + -18446744073709551616) = d ∧ fitW (S + -18446744073709551616) = true by
    rw [hd]; have := ID.out
    exact ⟨by unfold clipW; rw [if_pos this], by unfold fitW; rw [decide_eq_true_iff]; exact this⟩)
  have HS := Lib.hid hs
  have HK := Lib.hid hc
  have HSS := Lib.hid hS
  have HC := Lib.hid C
  clear C R hs hc hS hd
  go_enter Try.func8, Try.ntmps8
  go_wp2_with fail
  refine (HC.out.sin t _ t0 t1).mono ?_
  rw [HS.out]
  rintro e w1 ⟨rfl, hb1⟩
  have z_w1 := hb1.size
  try simp at z_w1
  have y_w1 : w.heap.size ≤ w1.heap.size := by omega
  go_wp2_with fail
  refine (HC.out.cos t _ t0 t1).mono ?_
  rw [HK.out]
  rintro e w2 ⟨rfl, hb2⟩
  have z_w2 := hb2.size
  try simp at z_w2
  have y_w2 : w.heap.size ≤ w2.heap.size := by omega
  go_wp2_with fail
  refine (Mul_any s s _ (by omega) (by omega) (by omega) (by omega)).mono ?_
  rintro e w3 ⟨rfl, hb3⟩
  have z_w3 := hb3.size
  try simp at z_w3
  have y_w3 : w.heap.size ≤ w3.heap.size := by omega
  go_wp2_with fail
  refine (Mul_any c c _ (by omega) (by omega) (by omega) (by omega)).mono ?_
  rintro e w4 ⟨rfl, hb4⟩
  have z_w4 := hb4.size
  try simp at z_w4
  have y_w4 : w.heap.size ≤ w4.heap.size := by omega
  go_wp2_with fail
  refine (Add_yes (s * s) (c * c) S _ I1.out I2.out HSS.out IS.out).mono ?_
  rintro e w5 ⟨rfl, hb5⟩
  have z_w5 := hb5.size
  try simp at z_w5
  have y_w5 : w.heap.size ≤ w5.heap.size := by omega
  have B5 : Below w.heap.size w w5 := by repeat (first | exact Below.refl _ _ | assumption | refine Below.setCell ?_ (by first | omega | (simp; done) | (simp; omega)) _ | refine Below.alloc ?_ (by first | omega | (simp; done) | (simp; omega)) _ | refine below_drewN ?_ _ | refine Below.drew ?_ | refine Below.trans ?_ (Below.mono (by assumption) (by first | omega | (simp; done) | (simp; omega))))
  have HB5 := Lib.hid B5
  clear B5 hb1 hb2 hb3 hb4 hb5 z_w1 z_w2 z_w3 z_w4 z_w5 y_w1 y_w2 y_w3 y_w4 b
  go_wp2_with fail
  refine (Add_any _ _ _ _ S (-18446744073709551616) _ (isW_of IS.out) isW_m64).mono ?_
  rw [CL.out.1, CL.out.2]
  rintro e w6 ⟨rfl, hb6⟩
  have B6 := HB5.out.trans ((((Below.refl _ _).alloc (Nat.le_refl _) _).trans (hb6.mono (by simp))).mono (by omega))
  have y6 : w.heap.size ≤ w6.heap.size := B6.size
  have HB6 := Lib.hid B6
  clear B6 hb6 HB5
  go_wp2_with fail
  have CN : CellW (w6.alloc (.cells #[.int .i64 (hiW d), .int .u64 (loW d)] 35)) w6.heap.size (hiW d) (loW d) := CellW.new w6 _ _ _
  have B7 := HB6.out.alloc y6 (.cells #[.int .i64 (hiW d), .int .u64 (loW d)] 35)
  have S0 := Lib.hid (start1 (B := w.heap.size) (w := w) CN (by simp) (by simp; omega) B7)
  clear B7 CN
  generalize w6.alloc (.cells #[.int .i64 (hiW d), .int .u64 (loW d)] 35) = W7 at *
  generalize w6.heap.size = n7 at *
  refine wp_region_held_drew (S := fun W => (W.cell? ⟨n7, 0, none⟩ = some (.int .i64 (hiW d)) ∧ W.cell? ⟨n7, 1, none⟩ = some (.int .u64 (loW d))) ∧ n7 < W.heap.size ∧ w.heap.size ≤ W.heap.size ∧ Below w.heap.size w W) (by kernel_rfl) (keep1 ((Below.refl _ _).drew) S0.out) (fun hHeld => ?_)
  refine wpAnyH_takeD 0 29 (v := ?_) (by kernel_rfl) (by kernel_rfl) (by kernel_rfl) (by kernel_rfl) (by rfl) (fun _ _ _ h => h) ?_ hHeld ?_
  rotate_left 1
  (intro o ho W hSw; simp only [List.getElem?_toArray, List.getElem?_cons_succ, List.getElem?_cons_zero, Option.some.injEq] at ho; subst ho; (try dsimp only at hSw); go_simp; try with_reducible rfl)
  (try simp only [Act.put, List.setIfInBounds_toArray, List.set_cons_zero, List.set_cons_succ])
  refine wpAnyH_takeD 1 30 (v := ?_) (by kernel_rfl) (by kernel_rfl) (by kernel_rfl) (by kernel_rfl) (by rfl) (fun _ _ _ h => h) ?_ hHeld ?_
  rotate_left 1
  (intro o ho W hSw; simp only [List.getElem?_toArray, List.getElem?_cons_succ, List.getElem?_cons_zero, Option.some.injEq] at ho; subst ho; (try dsimp only at hSw); go_simp; try with_reducible rfl)
  (try simp only [Act.put, List.setIfInBounds_toArray, List.set_cons_zero, List.set_cons_succ])
  refine wpAnyH_takeD 2 31 (v := ?_) (by kernel_rfl) (by kernel_rfl) (by kernel_rfl) (by kernel_rfl) (by rfl) (fun _ _ _ h => h) ?_ hHeld ?_
  rotate_left 1
  (intro o ho W hSw; simp only [List.getElem?_toArray, List.getElem?_cons_succ, List.getElem?_cons_zero, Option.some.injEq] at ho; subst ho; (try dsimp only at hSw); go_simp; try with_reducible rfl)
  (try simp only [Act.put, List.setIfInBounds_toArray, List.set_cons_zero, List.set_cons_succ])
  refine wpAnyH_onlyD 3 (by kernel_rfl) (fun o ho K hK => ?_) (by kernel_rfl)
  simp only [List.getElem?_toArray, List.getElem?_cons_succ, List.getElem?_cons_zero, Option.some.injEq] at ho
  subst ho
  go_simp
  refine (Of_any 36028797018963968 _ (by omega) (by omega)).mono ?_
  rintro e w8 ⟨rfl, hb⟩
  go_wp2_with fail
  refine hK.out _ _ (keep1 hb hHeld) (fun hHeld => ?_)
  clear hK K
  clear hb
  refine wpAnyH_onlyD 4 (by kernel_rfl) (fun o ho K hK => ?_) (by kernel_rfl)
  simp only [List.getElem?_toArray, List.getElem?_cons_succ, List.getElem?_cons_zero, Option.some.injEq] at ho
  subst ho
  go_simp
  refine (Cmp_n d 36028797018963968 _ ID.out i3).mono ?_
  rintro e w9 ⟨rfl, hb⟩
  go_wp2_with fail
  refine hK.out _ _ (keep1 hb hHeld) (fun hHeld => ?_)
  clear hK K
  clear hb
  refine wpAnyH_takeD 5 34 (v := ?_) (by kernel_rfl) (by kernel_rfl) (by kernel_rfl) (by kernel_rfl) (by rfl) (fun _ _ _ h => h) ?_ hHeld ?_
  rotate_left 1
  (intro o ho W hSw; simp only [List.getElem?_toArray, List.getElem?_cons_succ, List.getElem?_cons_zero, Option.some.injEq] at ho; subst ho; (try dsimp only at hSw); go_simp; try with_reducible rfl)
  (try simp only [Act.put, List.setIfInBounds_toArray, List.set_cons_zero, List.set_cons_succ])
  refine wpAnyH_takeD 6 35 (v := ?_) (by kernel_rfl) (by kernel_rfl) (by kernel_rfl) (by kernel_rfl) (by rfl) (fun _ _ _ h => h) ?_ hHeld ?_
  rotate_left 1
  (intro o ho W hSw; simp only [List.getElem?_toArray, List.getElem?_cons_succ, List.getElem?_cons_zero, Option.some.injEq] at ho; subst ho; (try dsimp only at hSw); go_simp; try with_reducible rfl)
  (try simp only [Act.put, List.setIfInBounds_toArray, List.set_cons_zero, List.set_cons_succ])
  refine wpAnyH_takeD 7 36 (v := ?_) (by kernel_rfl) (by kernel_rfl) (by kernel_rfl) (by kernel_rfl) (by rfl) (fun _ _ _ h => h) ?_ hHeld ?_
  rotate_left 1
  (intro o ho W hSw; simp only [List.getElem?_toArray, List.getElem?_cons_succ, List.getElem?_cons_zero, Option.some.injEq] at ho; subst ho; (try dsimp only at hSw); go_simp; try with_reducible rfl)
  (try simp only [Act.put, List.setIfInBounds_toArray, List.set_cons_zero, List.set_cons_succ])
  refine wpAnyH_takeD 8 37 (v := ?_) (by kernel_rfl) (by kernel_rfl) (by kernel_rfl) (by kernel_rfl) (by rfl) (fun _ _ _ h => h) ?_ hHeld ?_
  rotate_left 1
  (intro o ho W hSw; simp only [List.getElem?_toArray, List.getElem?_cons_succ, List.getElem?_cons_zero, Option.some.injEq] at ho; subst ho; (try dsimp only at hSw); go_simp; try with_reducible rfl)
  (try simp only [Act.put, List.setIfInBounds_toArray, List.set_cons_zero, List.set_cons_succ])
  refine wpAnyH_onlyD 9 (by kernel_rfl) (fun o ho K hK => ?_) (by kernel_rfl)
  simp only [List.getElem?_toArray, List.getElem?_cons_succ, List.getElem?_cons_zero, Option.some.injEq] at ho
  subst ho
  go_simp
  refine (Of_any (-36028797018963968) _ (by omega) (by omega)).mono ?_
  rintro e w10 ⟨rfl, hb⟩
  go_wp2_with fail
  refine hK.out _ _ (keep1 hb hHeld) (fun hHeld => ?_)
  clear hK K
  clear hb
  refine wpAnyH_onlyD 10 (by kernel_rfl) (fun o ho K hK => ?_) (by kernel_rfl)
  simp only [List.getElem?_toArray, List.getElem?_cons_succ, List.getElem?_cons_zero, Option.some.injEq] at ho
  subst ho
  go_simp
  refine (Cmp_n d (-36028797018963968) _ ID.out i4).mono ?_
  rintro e w11 ⟨rfl, hb⟩
  go_wp2_with fail
  refine hK.out _ _ (keep1 hb hHeld) (fun hHeld => ?_)
  clear hK K
  clear hb
  refine wpAnyH_takeD 11 40 (v := ?_) (by kernel_rfl) (by kernel_rfl) (by kernel_rfl) (by kernel_rfl) (by rfl) (fun _ _ _ h => h) ?_ hHeld ?_
  rotate_left 1
  (intro o ho W hSw; simp only [List.getElem?_toArray, List.getElem?_cons_succ, List.getElem?_cons_zero, Option.some.injEq] at ho; subst ho; (try dsimp only at hSw); go_simp; try with_reducible rfl)
  (try simp only [Act.put, List.setIfInBounds_toArray, List.set_cons_zero, List.set_cons_succ])
  refine wpAnyH_takeD 12 41 (v := ?_) (by kernel_rfl) (by kernel_rfl) (by kernel_rfl) (by kernel_rfl) (by rfl) (fun _ _ _ h => h) ?_ hHeld ?_
  rotate_left 1
  (intro o ho W hSw; simp only [List.getElem?_toArray, List.getElem?_cons_succ, List.getElem?_cons_zero, Option.some.injEq] at ho; subst ho; (try dsimp only at hSw); go_simp; try with_reducible rfl)
  (try simp only [Act.put, List.setIfInBounds_toArray, List.set_cons_zero, List.set_cons_succ])
  refine wpAnyH_takeD 13 42 (v := ?_) (by kernel_rfl) (by kernel_rfl) (by kernel_rfl) (by kernel_rfl) (by rfl) (fun _ _ _ h => h) ?_ hHeld ?_
  rotate_left 1
  (intro o ho W hSw; simp only [List.getElem?_toArray, List.getElem?_cons_succ, List.getElem?_cons_zero, Option.some.injEq] at ho; subst ho; (try dsimp only at hSw); go_simp; try with_reducible rfl)
  (try simp only [Act.put, List.setIfInBounds_toArray, List.set_cons_zero, List.set_cons_succ])
  refine wpAnyH_onlyD 14 (by kernel_rfl) (fun o ho K hK => ?_) (by kernel_rfl)
  simp only [List.getElem?_toArray, List.getElem?_cons_succ, List.getElem?_cons_zero, Option.some.injEq] at ho
  subst ho
  go_simp
  refine (trigAwake_any HC.out _).mono ?_
  rintro e w12 ⟨rfl, hb⟩
  go_wp2_with fail
  refine hK.out _ _ (keep1 hb hHeld) (fun hHeld => ?_)
  clear hK K
  clear hb
  refine wpAnyH_takeD 15 44 (v := ?_) (by kernel_rfl) (by kernel_rfl) (by kernel_rfl) (by kernel_rfl) (by rfl) (fun _ _ _ h => h) ?_ hHeld ?_
  rotate_left 1
  (intro o ho W hSw; simp only [List.getElem?_toArray, List.getElem?_cons_succ, List.getElem?_cons_zero, Option.some.injEq] at ho; subst ho; (try dsimp only at hSw); go_simp; try with_reducible rfl)
  (try simp only [Act.put, List.setIfInBounds_toArray, List.set_cons_zero, List.set_cons_succ])
  refine wpAnyH_takeD 16 2 (v := ?_) (by kernel_rfl) (by kernel_rfl) (by kernel_rfl) (by kernel_rfl) (by rfl) (fun _ _ _ h => h) ?_ hHeld ?_
  rotate_left 1
  (intro o ho W hSw; simp only [List.getElem?_toArray, List.getElem?_cons_succ, List.getElem?_cons_zero, Option.some.injEq] at ho; subst ho; (try dsimp only at hSw); go_simp; try with_reducible rfl)
  (try simp only [Act.put, List.setIfInBounds_toArray, List.set_cons_zero, List.set_cons_succ])
  refine wpAnyH_done (by kernel_rfl) ?_ _
  go_wp2
  go_ret
  exact ⟨rfl, end1 hHeld⟩
end Go.Proofs.Ytjjfeehfgikobaa
