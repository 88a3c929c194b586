/- The walk of WideNear. -/
import Derived.Test.YtjilgfgchmdppaaL0
namespace Go.Proofs.Ytjilgfgchmdppaa
open Go.RowKit

theorem rnd_near {n d : Int} (hd : 0 < d) : 2 * (n - rndN n d * d) ≤ d ∧ -d ≤ 2 * (n - rndN n d * d) ∧ (2 * (n - rndN n d * d) = d ∨ 2 * (n - rndN n d * d) = -d → rndN n d % 2 = 0) := by
  have e := Int.mul_ediv_add_emod n d
  have h0 := Int.emod_nonneg n (show d ≠ 0 by omega)
  have h1 := Int.emod_lt_of_pos n hd
  rw [Int.mul_comm] at e
  unfold rndN
  split
  · rw [Int.add_mul]
    refine ⟨by omega, by omega, ?_⟩
    intro k
    rename_i c
    rcases c with c | c
    · omega
    · omega
  · rename_i c
    refine ⟨by omega, by omega, ?_⟩
    intro k
    omega
/-- what a quotient that there is says of the numbers -/
theorem near_of {a b : Int} (h : divB a b = true) : b ≠ 0 ∧ -9223372036854775808 ≤ divI a b ∧ divI a b ≤ 9223372036854775807 ∧ 2 * (a - divI a b * b) ≤ b.natAbs ∧ -(b.natAbs : Int) ≤ 2 * (a - divI a b * b) ∧ (2 * (a - divI a b * b) = b.natAbs ∨ 2 * (a - divI a b * b) = -(b.natAbs : Int) → divI a b % 2 = 0) := by
  unfold divB at h
  unfold divI
  split at h
  · simp at h
  · rename_i hb
    rw [if_neg hb]
    have k := rnd_near (n := a.natAbs) (d := b.natAbs) (by omega)
    have k0 : 0 ≤ rndN (a.natAbs : Int) (b.natAbs : Int) := by
      have := (rnd_ge (a.natAbs : Int) (b.natAbs : Int)).1
      have := Int.ediv_nonneg (show (0 : Int) ≤ a.natAbs by omega) (show (0 : Int) ≤ b.natAbs by omega)
      omega
    revert h k k0
    generalize rndN (a.natAbs : Int) (b.natAbs : Int) = r
    intro h k k0
    unfold sgnB at h
    unfold sgnI
    obtain ⟨k1, k2, k3⟩ := k
    by_cases p : a < 0 <;> by_cases q : b < 0 <;> simp [p, q] at h ⊢
    · have eb : (b.natAbs : Int) = -b := by omega
      have ea : (a.natAbs : Int) = -a := by omega
      rw [if_pos h]
      rw [ea, eb, Int.mul_neg] at k1 k2 k3
      rw [eb]
      refine ⟨hb, by omega, by omega, by omega, by omega, fun k => k3 (by omega)⟩
    · have eb : (b.natAbs : Int) = b := by omega
      have ea : (a.natAbs : Int) = -a := by omega
      rw [if_pos h]
      rw [ea, eb] at k1 k2 k3
      rw [eb, Int.neg_mul]
      refine ⟨hb, by omega, by omega, by omega, by omega, fun k => by have := k3 (by omega); omega⟩
    · have eb : (b.natAbs : Int) = -b := by omega
      have ea : (a.natAbs : Int) = a := by omega
      rw [if_pos h]
      rw [ea, eb, Int.mul_neg] at k1 k2 k3
      rw [eb, Int.neg_mul]
      refine ⟨hb, by omega, by omega, by omega, by omega, fun k => by have := k3 (by omega); omega⟩
    · have eb : (b.natAbs : Int) = b := by omega
      have ea : (a.natAbs : Int) = a := by omega
      rw [if_pos h]
      rw [ea, eb] at k1 k2 k3
      rw [eb]
      refine ⟨hb, by omega, by omega, by omega, by omega, fun k => k3 (by omega)⟩
theorem no_div {a b : Int} (h : divB a b = false) : divI a b = 0 := by
  unfold divB at h
  unfold divI
  split at h
  · rw [if_pos (by assumption)]
  · rw [if_neg (by assumption)]
    unfold sgnB at h
    unfold sgnI
    revert h
    generalize rndN (a.natAbs : Int) (b.natAbs : Int) = r
    cases (decide (a < 0) != decide (b < 0))
    · intro h; simp at h; rw [if_neg (by decide), if_neg (by omega)]
    · intro h; simp at h; rw [if_pos rfl, if_neg (by omega)]

set_option maxHeartbeats 8000000 in
theorem near_walk (a b : Int) (w : World) (ha : In128 a) (b0 : -9223372036854775808 ≤ b) (b1 : b ≤ 9223372036854775807) :
    Calls Try.prog 8 #[.agg #[.int .i64 (hiW a), .int .u64 (loW a)], .int .i64 b] w fun e w' => e = .returned (.bool true) ∧ Below w.heap.size w w' := by
  obtain ⟨q, hq⟩ : ∃ q, divI a b = q := ⟨_, rfl⟩
  cases hB : divB a b with
  | false =>
    have hn := no_div hB
    go_enter Try.func8, Try.ntmps8
    go_wp2_with fail
    refine (Div_any _ _ a b _ (isW_of ha) b0 b1).mono ?_
    rw [hB, hn]
    rintro e w1 ⟨rfl, hb1⟩
    obtain ⟨hc_w1, hf_w1⟩ := bcell hb1
    have z_w1 := hb1.size
    try simp at z_w1
    have z0_w1 : w.heap.size < w1.heap.size := by omega
    have y_w1 : w.heap.size ≤ w1.heap.size := by omega
    go_wp2_with fail
    refine (awake_any _).mono ?_
    rintro e w2 ⟨rfl, hb2⟩
    obtain ⟨hc_w2, hf_w2⟩ := bcell hb2
    have z_w2 := hb2.size
    try simp at z_w2
    have z0_w2 : w.heap.size < w2.heap.size := by omega
    have y_w2 : w.heap.size ≤ w2.heap.size := by omega
    go_wp2
    go_ret
    exact ⟨rfl, by repeat (first | exact Below.refl _ _ | assumption | refine Below.setCell ?_ (by first | omega | (simp; done) | (simp; omega)) _ | refine Below.alloc ?_ (by first | omega | (simp; done) | (simp; omega)) _ | refine below_drewN ?_ _ | refine Below.drew ?_ | refine Below.trans ?_ (Below.mono (by assumption) (by first | omega | (simp; done) | (simp; omega))))⟩
  | true =>
    have hn := near_of hB
    rw [hq] at hn
    obtain ⟨n1, n2, n3, n4, n5, n6⟩ := hn
    have bd := mul_bound (a := q) (b := b) n2 (by omega) b0 (by omega)
    have i1 : In128 (q * b) := by unfold In128; omega
    have i2 : In128 (-(q * b)) := by unfold In128; omega
    obtain ⟨d, hd⟩ : ∃ d, a + -(q * b) = d := ⟨_, rfl⟩
    have i3 : In128 d := by unfold In128; omega
    have i4 : In128 (d + d) := by unfold In128; omega
    have i5 : In128 b := in128_64 b0 b1
    have i6 : In128 (-b) := by unfold In128; omega
    have i7 : In128 (-(d + d)) := by unfold In128; omega
    have HD := Lib.hid hd
    have N6 := Lib.hid n6
    have hq2 : q % 2 = 0 → (q.tmod 2 == 0) = true := fun k => by rw [Int.tmod_eq_zero_of_dvd (Int.dvd_of_emod_eq_zero k)]; rfl
    have HQ2 := Lib.hid hq2
    by_cases cb : b < 0
    · by_cases cd : d + d < 0
      · have t := cmpI_lt cd
        by_cases c3 : cmpI (-(d + d)) (-b) < 0
        · have t2 : cmpI (-(d + d)) (-b) ≤ 0 := by unfold cmpI; split <;> (try split) <;> omega
          clear hd n6 bd cd n4 n5 hq2
          go_enter Try.func8, Try.ntmps8
          go_wp2_with fail
          refine (Div_any _ _ a b _ (isW_of ha) b0 b1).mono ?_
          rw [hB, hq]
          rintro e w1 ⟨rfl, hb1⟩
          have z_w1 := hb1.size
          try simp at z_w1
          have z0_w1 : w.heap.size < w1.heap.size := by omega
          have y_w1 : w.heap.size ≤ w1.heap.size := by omega
          have A1 : CellW w1 w.heap.size (hiW a) (loW a) := (CellW.new w _ _ _).below hb1 (by simp)
          go_wp2_with fail
          refine (Mul_any q b _ n2 n3 b0 b1).mono ?_
          rintro e w2 ⟨rfl, hb2⟩
          have z_w2 := hb2.size
          try simp at z_w2
          have z0_w2 : w.heap.size < w2.heap.size := by omega
          have y_w2 : w.heap.size ≤ w2.heap.size := by omega
          have A2 := A1.below hb2 (by omega)
          go_wp2_with fail
          refine (Neg_yes (q * b) (-(q * b)) _ i1 rfl i2).mono ?_
          rintro e w3 ⟨rfl, hb3⟩
          have z_w3 := hb3.size
          try simp at z_w3
          have z0_w3 : w.heap.size < w3.heap.size := by omega
          have y_w3 : w.heap.size ≤ w3.heap.size := by omega
          have A3 := A2.below hb3 (by omega)
          have ua0 := A3.c0
          have ua1 := A3.c1
          have ua2 := A3.f0
          have ua3 := A3.f1
          go_wp2_with fail
          refine (Add_yes a (-(q * b)) d _ ha i2 HD.out i3).mono ?_
          rintro e w4 ⟨rfl, hb4⟩
          have z_w4 := hb4.size
          try simp at z_w4
          have z0_w4 : w.heap.size < w4.heap.size := by omega
          have y_w4 : w.heap.size ≤ w4.heap.size := by omega
          go_wp2_with fail
          refine (Add_yes d d (d + d) _ i3 i3 rfl i4).mono ?_
          rintro e w5 ⟨rfl, hb5⟩
          have z_w5 := hb5.size
          try simp at z_w5
          have z0_w5 : w.heap.size < w5.heap.size := by omega
          have y_w5 : w.heap.size ≤ w5.heap.size := by omega
          go_wp2_with fail
          refine (Of_any b _ b0 b1).mono ?_
          rintro e w6 ⟨rfl, hb6⟩
          have z_w6 := hb6.size
          try simp at z_w6
          have z0_w6 : w.heap.size < w6.heap.size := by omega
          have y_w6 : w.heap.size ≤ w6.heap.size := by omega
          have x5_6 : w5.heap.size < w6.heap.size := by omega
          have ne1 : w6.heap.size ≠ w5.heap.size := by omega
          have ne2 : w5.heap.size ≠ w6.heap.size := by omega
          have T6 : CellW w6 w5.heap.size (hiW (d + d)) (loW (d + d)) := (CellW.new w5 _ _ _).below hb6 (by simp)
          have S6 : CellW (w6.alloc (.cells #[.int .i64 (hiW b), .int .u64 (loW b)] 25)) w6.heap.size (hiW b) (loW b) := CellW.new w6 _ _ _
          have ub0 := T6.c0
          have ub1 := T6.c1
          have ub2 := T6.f0
          have ub3 := T6.f1
          go_wp2_with fail
          refine (Neg_yes b (-b) _ i5 rfl i6).mono ?_
          rintro e w7 ⟨rfl, hb7⟩
          have z_w7 := hb7.size
          try simp at z_w7
          have z0_w7 : w.heap.size < w7.heap.size := by omega
          have y_w7 : w.heap.size ≤ w7.heap.size := by omega
          have T7 := (T6.alloc x5_6 _).below hb7 (by simp; omega)
          have S7 := S6.below hb7 (by simp)
          have uc0 := T7.c0
          have uc1 := T7.c1
          have uc2 := T7.f0
          have uc3 := T7.f1
          have ud0 := S7.c0
          have ud1 := S7.c1
          have ud2 := S7.f0
          have ud3 := S7.f1
          go_wp2_with fail
          refine (Sign_n (d + d) _ i4).mono ?_
          rintro e w8 ⟨rfl, hb8⟩
          have z_w8 := hb8.size
          try simp at z_w8
          have z0_w8 : w.heap.size < w8.heap.size := by omega
          have y_w8 : w.heap.size ≤ w8.heap.size := by omega
          have T8 := ((T7.far ne1 0 (.int .i64 (hiW (-b)))).far ne1 1 (.int .u64 (loW (-b)))).below hb8 (by simp; omega)
          have S8 := (S7.set (hiW (-b)) (loW (-b))).below hb8 (by simp; omega)
          have ue0 := T8.c0
          have ue1 := T8.c1
          have ue2 := T8.f0
          have ue3 := T8.f1
          have uf0 := S8.c0
          have uf1 := S8.c1
          have uf2 := S8.f0
          have uf3 := S8.f1
          go_wp2_with fail
          refine (Neg_yes (d + d) (-(d + d)) _ i4 rfl i7).mono ?_
          rintro e w9 ⟨rfl, hb9⟩
          have z_w9 := hb9.size
          try simp at z_w9
          have z0_w9 : w.heap.size < w9.heap.size := by omega
          have y_w9 : w.heap.size ≤ w9.heap.size := by omega
          have T9 := T8.below hb9 (by omega)
          have S9 := S8.below hb9 (by omega)
          have ug0 := T9.c0
          have ug1 := T9.c1
          have ug2 := T9.f0
          have ug3 := T9.f1
          have uh0 := S9.c0
          have uh1 := S9.c1
          have uh2 := S9.f0
          have uh3 := S9.f1
          go_wp2_with fail
          refine (Cmp_n (-(d + d)) (-b) _ i7 i6).mono ?_
          rintro e w10 ⟨rfl, hb10⟩
          have z_w10 := hb10.size
          try simp at z_w10
          have z0_w10 : w.heap.size < w10.heap.size := by omega
          have y_w10 : w.heap.size ≤ w10.heap.size := by omega
          have T10 := (T9.set (hiW (-(d + d))) (loW (-(d + d)))).below hb10 (by simp; omega)
          have S10 := ((S9.far ne2 0 (.int .i64 (hiW (-(d + d))))).far ne2 1 (.int .u64 (loW (-(d + d))))).below hb10 (by simp; omega)
          have ui0 := T10.c0
          have ui1 := T10.c1
          have ui2 := T10.f0
          have ui3 := T10.f1
          have uj0 := S10.c0
          have uj1 := S10.c1
          have uj2 := S10.f0
          have uj3 := S10.f1
          go_wp2_with fail
          refine (Cmp_n (-(d + d)) (-b) _ i7 i6).mono ?_
          rintro e w11 ⟨rfl, hb11⟩
          have z_w11 := hb11.size
          try simp at z_w11
          have z0_w11 : w.heap.size < w11.heap.size := by omega
          have y_w11 : w.heap.size ≤ w11.heap.size := by omega
          go_wp2_with fail
          refine (awake_any _).mono ?_
          rintro e w12 ⟨rfl, hb12⟩
          have z_w12 := hb12.size
          try simp at z_w12
          have z0_w12 : w.heap.size < w12.heap.size := by omega
          have y_w12 : w.heap.size ≤ w12.heap.size := by omega
          go_wp2
          go_ret
          exact ⟨rfl, by repeat (first | exact Below.refl _ _ | assumption | refine Below.setCell ?_ (by first | omega | (simp; done) | (simp; omega)) _ | refine Below.alloc ?_ (by first | omega | (simp; done) | (simp; omega)) _ | refine below_drewN ?_ _ | refine Below.drew ?_ | refine Below.trans ?_ (Below.mono (by assumption) (by first | omega | (simp; done) | (simp; omega))))⟩
        · have t2 : cmpI (-(d + d)) (-b) ≤ 0 := by unfold cmpI; split <;> (try split) <;> omega
          have t4 : (q.tmod 2 == 0) = true := HQ2.out (N6.out (by unfold cmpI at c3; split at c3 <;> (try split at c3) <;> omega))
          clear hd n6 bd cd n4 n5 hq2
          go_enter Try.func8, Try.ntmps8
          go_wp2_with fail
          refine (Div_any _ _ a b _ (isW_of ha) b0 b1).mono ?_
          rw [hB, hq]
          rintro e w1 ⟨rfl, hb1⟩
          have z_w1 := hb1.size
          try simp at z_w1
          have z0_w1 : w.heap.size < w1.heap.size := by omega
          have y_w1 : w.heap.size ≤ w1.heap.size := by omega
          have A1 : CellW w1 w.heap.size (hiW a) (loW a) := (CellW.new w _ _ _).below hb1 (by simp)
          go_wp2_with fail
          refine (Mul_any q b _ n2 n3 b0 b1).mono ?_
          rintro e w2 ⟨rfl, hb2⟩
          have z_w2 := hb2.size
          try simp at z_w2
          have z0_w2 : w.heap.size < w2.heap.size := by omega
          have y_w2 : w.heap.size ≤ w2.heap.size := by omega
          have A2 := A1.below hb2 (by omega)
          go_wp2_with fail
          refine (Neg_yes (q * b) (-(q * b)) _ i1 rfl i2).mono ?_
          rintro e w3 ⟨rfl, hb3⟩
          have z_w3 := hb3.size
          try simp at z_w3
          have z0_w3 : w.heap.size < w3.heap.size := by omega
          have y_w3 : w.heap.size ≤ w3.heap.size := by omega
          have A3 := A2.below hb3 (by omega)
          have ua0 := A3.c0
          have ua1 := A3.c1
          have ua2 := A3.f0
          have ua3 := A3.f1
          go_wp2_with fail
          refine (Add_yes a (-(q * b)) d _ ha i2 HD.out i3).mono ?_
          rintro e w4 ⟨rfl, hb4⟩
          have z_w4 := hb4.size
          try simp at z_w4
          have z0_w4 : w.heap.size < w4.heap.size := by omega
          have y_w4 : w.heap.size ≤ w4.heap.size := by omega
          go_wp2_with fail
          refine (Add_yes d d (d + d) _ i3 i3 rfl i4).mono ?_
          rintro e w5 ⟨rfl, hb5⟩
          have z_w5 := hb5.size
          try simp at z_w5
          have z0_w5 : w.heap.size < w5.heap.size := by omega
          have y_w5 : w.heap.size ≤ w5.heap.size := by omega
          go_wp2_with fail
          refine (Of_any b _ b0 b1).mono ?_
          rintro e w6 ⟨rfl, hb6⟩
          have z_w6 := hb6.size
          try simp at z_w6
          have z0_w6 : w.heap.size < w6.heap.size := by omega
          have y_w6 : w.heap.size ≤ w6.heap.size := by omega
          have x5_6 : w5.heap.size < w6.heap.size := by omega
          have ne1 : w6.heap.size ≠ w5.heap.size := by omega
          have ne2 : w5.heap.size ≠ w6.heap.size := by omega
          have T6 : CellW w6 w5.heap.size (hiW (d + d)) (loW (d + d)) := (CellW.new w5 _ _ _).below hb6 (by simp)
          have S6 : CellW (w6.alloc (.cells #[.int .i64 (hiW b), .int .u64 (loW b)] 25)) w6.heap.size (hiW b) (loW b) := CellW.new w6 _ _ _
          have ub0 := T6.c0
          have ub1 := T6.c1
          have ub2 := T6.f0
          have ub3 := T6.f1
          go_wp2_with fail
          refine (Neg_yes b (-b) _ i5 rfl i6).mono ?_
          rintro e w7 ⟨rfl, hb7⟩
          have z_w7 := hb7.size
          try simp at z_w7
          have z0_w7 : w.heap.size < w7.heap.size := by omega
          have y_w7 : w.heap.size ≤ w7.heap.size := by omega
          have T7 := (T6.alloc x5_6 _).below hb7 (by simp; omega)
          have S7 := S6.below hb7 (by simp)
          have uc0 := T7.c0
          have uc1 := T7.c1
          have uc2 := T7.f0
          have uc3 := T7.f1
          have ud0 := S7.c0
          have ud1 := S7.c1
          have ud2 := S7.f0
          have ud3 := S7.f1
          go_wp2_with fail
          refine (Sign_n (d + d) _ i4).mono ?_
          rintro e w8 ⟨rfl, hb8⟩
          have z_w8 := hb8.size
          try simp at z_w8
          have z0_w8 : w.heap.size < w8.heap.size := by omega
          have y_w8 : w.heap.size ≤ w8.heap.size := by omega
          have T8 := ((T7.far ne1 0 (.int .i64 (hiW (-b)))).far ne1 1 (.int .u64 (loW (-b)))).below hb8 (by simp; omega)
          have S8 := (S7.set (hiW (-b)) (loW (-b))).below hb8 (by simp; omega)
          have ue0 := T8.c0
          have ue1 := T8.c1
          have ue2 := T8.f0
          have ue3 := T8.f1
          have uf0 := S8.c0
          have uf1 := S8.c1
          have uf2 := S8.f0
          have uf3 := S8.f1
          go_wp2_with fail
          refine (Neg_yes (d + d) (-(d + d)) _ i4 rfl i7).mono ?_
          rintro e w9 ⟨rfl, hb9⟩
          have z_w9 := hb9.size
          try simp at z_w9
          have z0_w9 : w.heap.size < w9.heap.size := by omega
          have y_w9 : w.heap.size ≤ w9.heap.size := by omega
          have T9 := T8.below hb9 (by omega)
          have S9 := S8.below hb9 (by omega)
          have ug0 := T9.c0
          have ug1 := T9.c1
          have ug2 := T9.f0
          have ug3 := T9.f1
          have uh0 := S9.c0
          have uh1 := S9.c1
          have uh2 := S9.f0
          have uh3 := S9.f1
          go_wp2_with fail
          refine (Cmp_n (-(d + d)) (-b) _ i7 i6).mono ?_
          rintro e w10 ⟨rfl, hb10⟩
          have z_w10 := hb10.size
          try simp at z_w10
          have z0_w10 : w.heap.size < w10.heap.size := by omega
          have y_w10 : w.heap.size ≤ w10.heap.size := by omega
          have T10 := (T9.set (hiW (-(d + d))) (loW (-(d + d)))).below hb10 (by simp; omega)
          have S10 := ((S9.far ne2 0 (.int .i64 (hiW (-(d + d))))).far ne2 1 (.int .u64 (loW (-(d + d))))).below hb10 (by simp; omega)
          have ui0 := T10.c0
          have ui1 := T10.c1
          have ui2 := T10.f0
          have ui3 := T10.f1
          have uj0 := S10.c0
          have uj1 := S10.c1
          have uj2 := S10.f0
          have uj3 := S10.f1
          go_wp2_with fail
          refine (Cmp_n (-(d + d)) (-b) _ i7 i6).mono ?_
          rintro e w11 ⟨rfl, hb11⟩
          have z_w11 := hb11.size
          try simp at z_w11
          have z0_w11 : w.heap.size < w11.heap.size := by omega
          have y_w11 : w.heap.size ≤ w11.heap.size := by omega
          go_wp2_with fail
          refine (awake_any _).mono ?_
          rintro e w12 ⟨rfl, hb12⟩
          have z_w12 := hb12.size
          try simp at z_w12
          have z0_w12 : w.heap.size < w12.heap.size := by omega
          have y_w12 : w.heap.size ≤ w12.heap.size := by omega
          go_wp2
          go_ret
          exact ⟨rfl, by repeat (first | exact Below.refl _ _ | assumption | refine Below.setCell ?_ (by first | omega | (simp; done) | (simp; omega)) _ | refine Below.alloc ?_ (by first | omega | (simp; done) | (simp; omega)) _ | refine below_drewN ?_ _ | refine Below.drew ?_ | refine Below.trans ?_ (Below.mono (by assumption) (by first | omega | (simp; done) | (simp; omega))))⟩
      · have t := cmpI_ge (show 0 ≤ d + d by omega)
        by_cases c3 : cmpI (d + d) (-b) < 0
        · have t2 : cmpI (d + d) (-b) ≤ 0 := by unfold cmpI; split <;> (try split) <;> omega
          clear hd n6 bd cd n4 n5 hq2
          go_enter Try.func8, Try.ntmps8
          go_wp2_with fail
          refine (Div_any _ _ a b _ (isW_of ha) b0 b1).mono ?_
          rw [hB, hq]
          rintro e w1 ⟨rfl, hb1⟩
          have z_w1 := hb1.size
          try simp at z_w1
          have z0_w1 : w.heap.size < w1.heap.size := by omega
          have y_w1 : w.heap.size ≤ w1.heap.size := by omega
          have A1 : CellW w1 w.heap.size (hiW a) (loW a) := (CellW.new w _ _ _).below hb1 (by simp)
          go_wp2_with fail
          refine (Mul_any q b _ n2 n3 b0 b1).mono ?_
          rintro e w2 ⟨rfl, hb2⟩
          have z_w2 := hb2.size
          try simp at z_w2
          have z0_w2 : w.heap.size < w2.heap.size := by omega
          have y_w2 : w.heap.size ≤ w2.heap.size := by omega
          have A2 := A1.below hb2 (by omega)
          go_wp2_with fail
          refine (Neg_yes (q * b) (-(q * b)) _ i1 rfl i2).mono ?_
          rintro e w3 ⟨rfl, hb3⟩
          have z_w3 := hb3.size
          try simp at z_w3
          have z0_w3 : w.heap.size < w3.heap.size := by omega
          have y_w3 : w.heap.size ≤ w3.heap.size := by omega
          have A3 := A2.below hb3 (by omega)
          have ua0 := A3.c0
          have ua1 := A3.c1
          have ua2 := A3.f0
          have ua3 := A3.f1
          go_wp2_with fail
          refine (Add_yes a (-(q * b)) d _ ha i2 HD.out i3).mono ?_
          rintro e w4 ⟨rfl, hb4⟩
          have z_w4 := hb4.size
          try simp at z_w4
          have z0_w4 : w.heap.size < w4.heap.size := by omega
          have y_w4 : w.heap.size ≤ w4.heap.size := by omega
          go_wp2_with fail
          refine (Add_yes d d (d + d) _ i3 i3 rfl i4).mono ?_
          rintro e w5 ⟨rfl, hb5⟩
          have z_w5 := hb5.size
          try simp at z_w5
          have z0_w5 : w.heap.size < w5.heap.size := by omega
          have y_w5 : w.heap.size ≤ w5.heap.size := by omega
          go_wp2_with fail
          refine (Of_any b _ b0 b1).mono ?_
          rintro e w6 ⟨rfl, hb6⟩
          have z_w6 := hb6.size
          try simp at z_w6
          have z0_w6 : w.heap.size < w6.heap.size := by omega
          have y_w6 : w.heap.size ≤ w6.heap.size := by omega
          have x5_6 : w5.heap.size < w6.heap.size := by omega
          have ne1 : w6.heap.size ≠ w5.heap.size := by omega
          have ne2 : w5.heap.size ≠ w6.heap.size := by omega
          have T6 : CellW w6 w5.heap.size (hiW (d + d)) (loW (d + d)) := (CellW.new w5 _ _ _).below hb6 (by simp)
          have S6 : CellW (w6.alloc (.cells #[.int .i64 (hiW b), .int .u64 (loW b)] 25)) w6.heap.size (hiW b) (loW b) := CellW.new w6 _ _ _
          have ub0 := T6.c0
          have ub1 := T6.c1
          have ub2 := T6.f0
          have ub3 := T6.f1
          go_wp2_with fail
          refine (Neg_yes b (-b) _ i5 rfl i6).mono ?_
          rintro e w7 ⟨rfl, hb7⟩
          have z_w7 := hb7.size
          try simp at z_w7
          have z0_w7 : w.heap.size < w7.heap.size := by omega
          have y_w7 : w.heap.size ≤ w7.heap.size := by omega
          have T7 := (T6.alloc x5_6 _).below hb7 (by simp; omega)
          have S7 := S6.below hb7 (by simp)
          have uc0 := T7.c0
          have uc1 := T7.c1
          have uc2 := T7.f0
          have uc3 := T7.f1
          have ud0 := S7.c0
          have ud1 := S7.c1
          have ud2 := S7.f0
          have ud3 := S7.f1
          go_wp2_with fail
          refine (Sign_n (d + d) _ i4).mono ?_
          rintro e w8 ⟨rfl, hb8⟩
          have z_w8 := hb8.size
          try simp at z_w8
          have z0_w8 : w.heap.size < w8.heap.size := by omega
          have y_w8 : w.heap.size ≤ w8.heap.size := by omega
          have T8 := ((T7.far ne1 0 (.int .i64 (hiW (-b)))).far ne1 1 (.int .u64 (loW (-b)))).below hb8 (by simp; omega)
          have S8 := (S7.set (hiW (-b)) (loW (-b))).below hb8 (by simp; omega)
          have ue0 := T8.c0
          have ue1 := T8.c1
          have ue2 := T8.f0
          have ue3 := T8.f1
          have uf0 := S8.c0
          have uf1 := S8.c1
          have uf2 := S8.f0
          have uf3 := S8.f1
          go_wp2_with fail
          refine (Cmp_n (d + d) (-b) _ i4 i6).mono ?_
          rintro e w10 ⟨rfl, hb10⟩
          have z_w10 := hb10.size
          try simp at z_w10
          have z0_w10 : w.heap.size < w10.heap.size := by omega
          have y_w10 : w.heap.size ≤ w10.heap.size := by omega
          have T10 := T8.below hb10 (by omega)
          have S10 := S8.below hb10 (by omega)
          have ui0 := T10.c0
          have ui1 := T10.c1
          have ui2 := T10.f0
          have ui3 := T10.f1
          have uj0 := S10.c0
          have uj1 := S10.c1
          have uj2 := S10.f0
          have uj3 := S10.f1
          go_wp2_with fail
          refine (Cmp_n (d + d) (-b) _ i4 i6).mono ?_
          rintro e w11 ⟨rfl, hb11⟩
          have z_w11 := hb11.size
          try simp at z_w11
          have z0_w11 : w.heap.size < w11.heap.size := by omega
          have y_w11 : w.heap.size ≤ w11.heap.size := by omega
          go_wp2_with fail
          refine (awake_any _).mono ?_
          rintro e w12 ⟨rfl, hb12⟩
          have z_w12 := hb12.size
          try simp at z_w12
          have z0_w12 : w.heap.size < w12.heap.size := by omega
          have y_w12 : w.heap.size ≤ w12.heap.size := by omega
          go_wp2
          go_ret
          exact ⟨rfl, by repeat (first | exact Below.refl _ _ | assumption | refine Below.setCell ?_ (by first | omega | (simp; done) | (simp; omega)) _ | refine Below.alloc ?_ (by first | omega | (simp; done) | (simp; omega)) _ | refine below_drewN ?_ _ | refine Below.drew ?_ | refine Below.trans ?_ (Below.mono (by assumption) (by first | omega | (simp; done) | (simp; omega))))⟩
        · have t2 : cmpI (d + d) (-b) ≤ 0 := by unfold cmpI; split <;> (try split) <;> omega
          have t4 : (q.tmod 2 == 0) = true := HQ2.out (N6.out (by unfold cmpI at c3; split at c3 <;> (try split at c3) <;> omega))
          clear hd n6 bd cd n4 n5 hq2
          go_enter Try.func8, Try.ntmps8
          go_wp2_with fail
          refine (Div_any _ _ a b _ (isW_of ha) b0 b1).mono ?_
          rw [hB, hq]
          rintro e w1 ⟨rfl, hb1⟩
          have z_w1 := hb1.size
          try simp at z_w1
          have z0_w1 : w.heap.size < w1.heap.size := by omega
          have y_w1 : w.heap.size ≤ w1.heap.size := by omega
          have A1 : CellW w1 w.heap.size (hiW a) (loW a) := (CellW.new w _ _ _).below hb1 (by simp)
          go_wp2_with fail
          refine (Mul_any q b _ n2 n3 b0 b1).mono ?_
          rintro e w2 ⟨rfl, hb2⟩
          have z_w2 := hb2.size
          try simp at z_w2
          have z0_w2 : w.heap.size < w2.heap.size := by omega
          have y_w2 : w.heap.size ≤ w2.heap.size := by omega
          have A2 := A1.below hb2 (by omega)
          go_wp2_with fail
          refine (Neg_yes (q * b) (-(q * b)) _ i1 rfl i2).mono ?_
          rintro e w3 ⟨rfl, hb3⟩
          have z_w3 := hb3.size
          try simp at z_w3
          have z0_w3 : w.heap.size < w3.heap.size := by omega
          have y_w3 : w.heap.size ≤ w3.heap.size := by omega
          have A3 := A2.below hb3 (by omega)
          have ua0 := A3.c0
          have ua1 := A3.c1
          have ua2 := A3.f0
          have ua3 := A3.f1
          go_wp2_with fail
          refine (Add_yes a (-(q * b)) d _ ha i2 HD.out i3).mono ?_
          rintro e w4 ⟨rfl, hb4⟩
          have z_w4 := hb4.size
          try simp at z_w4
          have z0_w4 : w.heap.size < w4.heap.size := by omega
          have y_w4 : w.heap.size ≤ w4.heap.size := by omega
          go_wp2_with fail
          refine (Add_yes d d (d + d) _ i3 i3 rfl i4).mono ?_
          rintro e w5 ⟨rfl, hb5⟩
          have z_w5 := hb5.size
          try simp at z_w5
          have z0_w5 : w.heap.size < w5.heap.size := by omega
          have y_w5 : w.heap.size ≤ w5.heap.size := by omega
          go_wp2_with fail
          refine (Of_any b _ b0 b1).mono ?_
          rintro e w6 ⟨rfl, hb6⟩
          have z_w6 := hb6.size
          try simp at z_w6
          have z0_w6 : w.heap.size < w6.heap.size := by omega
          have y_w6 : w.heap.size ≤ w6.heap.size := by omega
          have x5_6 : w5.heap.size < w6.heap.size := by omega
          have ne1 : w6.heap.size ≠ w5.heap.size := by omega
          have ne2 : w5.heap.size ≠ w6.heap.size := by omega
          have T6 : CellW w6 w5.heap.size (hiW (d + d)) (loW (d + d)) := (CellW.new w5 _ _ _).below hb6 (by simp)
          have S6 : CellW (w6.alloc (.cells #[.int .i64 (hiW b), .int .u64 (loW b)] 25)) w6.heap.size (hiW b) (loW b) := CellW.new w6 _ _ _
          have ub0 := T6.c0
          have ub1 := T6.c1
          have ub2 := T6.f0
          have ub3 := T6.f1
          go_wp2_with fail
          refine (Neg_yes b (-b) _ i5 rfl i6).mono ?_
          rintro e w7 ⟨rfl, hb7⟩
          have z_w7 := hb7.size
          try simp at z_w7
          have z0_w7 : w.heap.size < w7.heap.size := by omega
          have y_w7 : w.heap.size ≤ w7.heap.size := by omega
          have T7 := (T6.alloc x5_6 _).below hb7 (by simp; omega)
          have S7 := S6.below hb7 (by simp)
          have uc0 := T7.c0
          have uc1 := T7.c1
          have uc2 := T7.f0
          have uc3 := T7.f1
          have ud0 := S7.c0
          have ud1 := S7.c1
          have ud2 := S7.f0
          have ud3 := S7.f1
          go_wp2_with fail
          refine (Sign_n (d + d) _ i4).mono ?_
          rintro e w8 ⟨rfl, hb8⟩
          have z_w8 := hb8.size
          try simp at z_w8
          have z0_w8 : w.heap.size < w8.heap.size := by omega
          have y_w8 : w.heap.size ≤ w8.heap.size := by omega
          have T8 := ((T7.far ne1 0 (.int .i64 (hiW (-b)))).far ne1 1 (.int .u64 (loW (-b)))).below hb8 (by simp; omega)
          have S8 := (S7.set (hiW (-b)) (loW (-b))).below hb8 (by simp; omega)
          have ue0 := T8.c0
          have ue1 := T8.c1
          have ue2 := T8.f0
          have ue3 := T8.f1
          have uf0 := S8.c0
          have uf1 := S8.c1
          have uf2 := S8.f0
          have uf3 := S8.f1
          go_wp2_with fail
          refine (Cmp_n (d + d) (-b) _ i4 i6).mono ?_
          rintro e w10 ⟨rfl, hb10⟩
          have z_w10 := hb10.size
          try simp at z_w10
          have z0_w10 : w.heap.size < w10.heap.size := by omega
          have y_w10 : w.heap.size ≤ w10.heap.size := by omega
          have T10 := T8.below hb10 (by omega)
          have S10 := S8.below hb10 (by omega)
          have ui0 := T10.c0
          have ui1 := T10.c1
          have ui2 := T10.f0
          have ui3 := T10.f1
          have uj0 := S10.c0
          have uj1 := S10.c1
          have uj2 := S10.f0
          have uj3 := S10.f1
          go_wp2_with fail
          refine (Cmp_n (d + d) (-b) _ i4 i6).mono ?_
          rintro e w11 ⟨rfl, hb11⟩
          have z_w11 := hb11.size
          try simp at z_w11
          have z0_w11 : w.heap.size < w11.heap.size := by omega
          have y_w11 : w.heap.size ≤ w11.heap.size := by omega
          go_wp2_with fail
          refine (awake_any _).mono ?_
          rintro e w12 ⟨rfl, hb12⟩
          have z_w12 := hb12.size
          try simp at z_w12
          have z0_w12 : w.heap.size < w12.heap.size := by omega
          have y_w12 : w.heap.size ≤ w12.heap.size := by omega
          go_wp2
          go_ret
          exact ⟨rfl, by repeat (first | exact Below.refl _ _ | assumption | refine Below.setCell ?_ (by first | omega | (simp; done) | (simp; omega)) _ | refine Below.alloc ?_ (by first | omega | (simp; done) | (simp; omega)) _ | refine below_drewN ?_ _ | refine Below.drew ?_ | refine Below.trans ?_ (Below.mono (by assumption) (by first | omega | (simp; done) | (simp; omega))))⟩
    · by_cases cd : d + d < 0
      · have t := cmpI_lt cd
        by_cases c3 : cmpI (-(d + d)) b < 0
        · have t2 : cmpI (-(d + d)) b ≤ 0 := by unfold cmpI; split <;> (try split) <;> omega
          clear hd n6 bd cd n4 n5 hq2
          go_enter Try.func8, Try.ntmps8
          go_wp2_with fail
          refine (Div_any _ _ a b _ (isW_of ha) b0 b1).mono ?_
          rw [hB, hq]
          rintro e w1 ⟨rfl, hb1⟩
          have z_w1 := hb1.size
          try simp at z_w1
          have z0_w1 : w.heap.size < w1.heap.size := by omega
          have y_w1 : w.heap.size ≤ w1.heap.size := by omega
          have A1 : CellW w1 w.heap.size (hiW a) (loW a) := (CellW.new w _ _ _).below hb1 (by simp)
          go_wp2_with fail
          refine (Mul_any q b _ n2 n3 b0 b1).mono ?_
          rintro e w2 ⟨rfl, hb2⟩
          have z_w2 := hb2.size
          try simp at z_w2
          have z0_w2 : w.heap.size < w2.heap.size := by omega
          have y_w2 : w.heap.size ≤ w2.heap.size := by omega
          have A2 := A1.below hb2 (by omega)
          go_wp2_with fail
          refine (Neg_yes (q * b) (-(q * b)) _ i1 rfl i2).mono ?_
          rintro e w3 ⟨rfl, hb3⟩
          have z_w3 := hb3.size
          try simp at z_w3
          have z0_w3 : w.heap.size < w3.heap.size := by omega
          have y_w3 : w.heap.size ≤ w3.heap.size := by omega
          have A3 := A2.below hb3 (by omega)
          have ua0 := A3.c0
          have ua1 := A3.c1
          have ua2 := A3.f0
          have ua3 := A3.f1
          go_wp2_with fail
          refine (Add_yes a (-(q * b)) d _ ha i2 HD.out i3).mono ?_
          rintro e w4 ⟨rfl, hb4⟩
          have z_w4 := hb4.size
          try simp at z_w4
          have z0_w4 : w.heap.size < w4.heap.size := by omega
          have y_w4 : w.heap.size ≤ w4.heap.size := by omega
          go_wp2_with fail
          refine (Add_yes d d (d + d) _ i3 i3 rfl i4).mono ?_
          rintro e w5 ⟨rfl, hb5⟩
          have z_w5 := hb5.size
          try simp at z_w5
          have z0_w5 : w.heap.size < w5.heap.size := by omega
          have y_w5 : w.heap.size ≤ w5.heap.size := by omega
          go_wp2_with fail
          refine (Of_any b _ b0 b1).mono ?_
          rintro e w6 ⟨rfl, hb6⟩
          have z_w6 := hb6.size
          try simp at z_w6
          have z0_w6 : w.heap.size < w6.heap.size := by omega
          have y_w6 : w.heap.size ≤ w6.heap.size := by omega
          have x5_6 : w5.heap.size < w6.heap.size := by omega
          have ne1 : w6.heap.size ≠ w5.heap.size := by omega
          have ne2 : w5.heap.size ≠ w6.heap.size := by omega
          have T6 : CellW w6 w5.heap.size (hiW (d + d)) (loW (d + d)) := (CellW.new w5 _ _ _).below hb6 (by simp)
          have S6 : CellW (w6.alloc (.cells #[.int .i64 (hiW b), .int .u64 (loW b)] 25)) w6.heap.size (hiW b) (loW b) := CellW.new w6 _ _ _
          have ub0 := T6.c0
          have ub1 := T6.c1
          have ub2 := T6.f0
          have ub3 := T6.f1
          go_wp2_with fail
          refine (Sign_n (d + d) _ i4).mono ?_
          rintro e w8 ⟨rfl, hb8⟩
          have z_w8 := hb8.size
          try simp at z_w8
          have z0_w8 : w.heap.size < w8.heap.size := by omega
          have y_w8 : w.heap.size ≤ w8.heap.size := by omega
          have T8 := (T6.alloc x5_6 _).below hb8 (by simp; omega)
          have S8 := S6.below hb8 (by simp)
          have ue0 := T8.c0
          have ue1 := T8.c1
          have ue2 := T8.f0
          have ue3 := T8.f1
          have uf0 := S8.c0
          have uf1 := S8.c1
          have uf2 := S8.f0
          have uf3 := S8.f1
          go_wp2_with fail
          refine (Neg_yes (d + d) (-(d + d)) _ i4 rfl i7).mono ?_
          rintro e w9 ⟨rfl, hb9⟩
          have z_w9 := hb9.size
          try simp at z_w9
          have z0_w9 : w.heap.size < w9.heap.size := by omega
          have y_w9 : w.heap.size ≤ w9.heap.size := by omega
          have T9 := T8.below hb9 (by omega)
          have S9 := S8.below hb9 (by omega)
          have ug0 := T9.c0
          have ug1 := T9.c1
          have ug2 := T9.f0
          have ug3 := T9.f1
          have uh0 := S9.c0
          have uh1 := S9.c1
          have uh2 := S9.f0
          have uh3 := S9.f1
          go_wp2_with fail
          refine (Cmp_n (-(d + d)) b _ i7 i5).mono ?_
          rintro e w10 ⟨rfl, hb10⟩
          have z_w10 := hb10.size
          try simp at z_w10
          have z0_w10 : w.heap.size < w10.heap.size := by omega
          have y_w10 : w.heap.size ≤ w10.heap.size := by omega
          have T10 := (T9.set (hiW (-(d + d))) (loW (-(d + d)))).below hb10 (by simp; omega)
          have S10 := ((S9.far ne2 0 (.int .i64 (hiW (-(d + d))))).far ne2 1 (.int .u64 (loW (-(d + d))))).below hb10 (by simp; omega)
          have ui0 := T10.c0
          have ui1 := T10.c1
          have ui2 := T10.f0
          have ui3 := T10.f1
          have uj0 := S10.c0
          have uj1 := S10.c1
          have uj2 := S10.f0
          have uj3 := S10.f1
          go_wp2_with fail
          refine (Cmp_n (-(d + d)) b _ i7 i5).mono ?_
          rintro e w11 ⟨rfl, hb11⟩
          have z_w11 := hb11.size
          try simp at z_w11
          have z0_w11 : w.heap.size < w11.heap.size := by omega
          have y_w11 : w.heap.size ≤ w11.heap.size := by omega
          go_wp2_with fail
          refine (awake_any _).mono ?_
          rintro e w12 ⟨rfl, hb12⟩
          have z_w12 := hb12.size
          try simp at z_w12
          have z0_w12 : w.heap.size < w12.heap.size := by omega
          have y_w12 : w.heap.size ≤ w12.heap.size := by omega
          go_wp2
          go_ret
          exact ⟨rfl, by repeat (first | exact Below.refl _ _ | assumption | refine Below.setCell ?_ (by first | omega | (simp; done) | (simp; omega)) _ | refine Below.alloc ?_ (by first | omega | (simp; done) | (simp; omega)) _ | refine below_drewN ?_ _ | refine Below.drew ?_ | refine Below.trans ?_ (Below.mono (by assumption) (by first | omega | (simp; done) | (simp; omega))))⟩
        · have t2 : cmpI (-(d + d)) b ≤ 0 := by unfold cmpI; split <;> (try split) <;> omega
          have t4 : (q.tmod 2 == 0) = true := HQ2.out (N6.out (by unfold cmpI at c3; split at c3 <;> (try split at c3) <;> omega))
          clear hd n6 bd cd n4 n5 hq2
          go_enter Try.func8, Try.ntmps8
          go_wp2_with fail
          refine (Div_any _ _ a b _ (isW_of ha) b0 b1).mono ?_
          rw [hB, hq]
          rintro e w1 ⟨rfl, hb1⟩
          have z_w1 := hb1.size
          try simp at z_w1
          have z0_w1 : w.heap.size < w1.heap.size := by omega
          have y_w1 : w.heap.size ≤ w1.heap.size := by omega
          have A1 : CellW w1 w.heap.size (hiW a) (loW a) := (CellW.new w _ _ _).below hb1 (by simp)
          go_wp2_with fail
          refine (Mul_any q b _ n2 n3 b0 b1).mono ?_
          rintro e w2 ⟨rfl, hb2⟩
          have z_w2 := hb2.size
          try simp at z_w2
          have z0_w2 : w.heap.size < w2.heap.size := by omega
          have y_w2 : w.heap.size ≤ w2.heap.size := by omega
          have A2 := A1.below hb2 (by omega)
          go_wp2_with fail
          refine (Neg_yes (q * b) (-(q * b)) _ i1 rfl i2).mono ?_
          rintro e w3 ⟨rfl, hb3⟩
          have z_w3 := hb3.size
          try simp at z_w3
          have z0_w3 : w.heap.size < w3.heap.size := by omega
          have y_w3 : w.heap.size ≤ w3.heap.size := by omega
          have A3 := A2.below hb3 (by omega)
          have ua0 := A3.c0
          have ua1 := A3.c1
          have ua2 := A3.f0
          have ua3 := A3.f1
          go_wp2_with fail
          refine (Add_yes a (-(q * b)) d _ ha i2 HD.out i3).mono ?_
          rintro e w4 ⟨rfl, hb4⟩
          have z_w4 := hb4.size
          try simp at z_w4
          have z0_w4 : w.heap.size < w4.heap.size := by omega
          have y_w4 : w.heap.size ≤ w4.heap.size := by omega
          go_wp2_with fail
          refine (Add_yes d d (d + d) _ i3 i3 rfl i4).mono ?_
          rintro e w5 ⟨rfl, hb5⟩
          have z_w5 := hb5.size
          try simp at z_w5
          have z0_w5 : w.heap.size < w5.heap.size := by omega
          have y_w5 : w.heap.size ≤ w5.heap.size := by omega
          go_wp2_with fail
          refine (Of_any b _ b0 b1).mono ?_
          rintro e w6 ⟨rfl, hb6⟩
          have z_w6 := hb6.size
          try simp at z_w6
          have z0_w6 : w.heap.size < w6.heap.size := by omega
          have y_w6 : w.heap.size ≤ w6.heap.size := by omega
          have x5_6 : w5.heap.size < w6.heap.size := by omega
          have ne1 : w6.heap.size ≠ w5.heap.size := by omega
          have ne2 : w5.heap.size ≠ w6.heap.size := by omega
          have T6 : CellW w6 w5.heap.size (hiW (d + d)) (loW (d + d)) := (CellW.new w5 _ _ _).below hb6 (by simp)
          have S6 : CellW (w6.alloc (.cells #[.int .i64 (hiW b), .int .u64 (loW b)] 25)) w6.heap.size (hiW b) (loW b) := CellW.new w6 _ _ _
          have ub0 := T6.c0
          have ub1 := T6.c1
          have ub2 := T6.f0
          have ub3 := T6.f1
          go_wp2_with fail
          refine (Sign_n (d + d) _ i4).mono ?_
          rintro e w8 ⟨rfl, hb8⟩
          have z_w8 := hb8.size
          try simp at z_w8
          have z0_w8 : w.heap.size < w8.heap.size := by omega
          have y_w8 : w.heap.size ≤ w8.heap.size := by omega
          have T8 := (T6.alloc x5_6 _).below hb8 (by simp; omega)
          have S8 := S6.below hb8 (by simp)
          have ue0 := T8.c0
          have ue1 := T8.c1
          have ue2 := T8.f0
          have ue3 := T8.f1
          have uf0 := S8.c0
          have uf1 := S8.c1
          have uf2 := S8.f0
          have uf3 := S8.f1
          go_wp2_with fail
          refine (Neg_yes (d + d) (-(d + d)) _ i4 rfl i7).mono ?_
          rintro e w9 ⟨rfl, hb9⟩
          have z_w9 := hb9.size
          try simp at z_w9
          have z0_w9 : w.heap.size < w9.heap.size := by omega
          have y_w9 : w.heap.size ≤ w9.heap.size := by omega
          have T9 := T8.below hb9 (by omega)
          have S9 := S8.below hb9 (by omega)
          have ug0 := T9.c0
          have ug1 := T9.c1
          have ug2 := T9.f0
          have ug3 := T9.f1
          have uh0 := S9.c0
          have uh1 := S9.c1
          have uh2 := S9.f0
          have uh3 := S9.f1
          go_wp2_with fail
          refine (Cmp_n (-(d + d)) b _ i7 i5).mono ?_
          rintro e w10 ⟨rfl, hb10⟩
          have z_w10 := hb10.size
          try simp at z_w10
          have z0_w10 : w.heap.size < w10.heap.size := by omega
          have y_w10 : w.heap.size ≤ w10.heap.size := by omega
          have T10 := (T9.set (hiW (-(d + d))) (loW (-(d + d)))).below hb10 (by simp; omega)
          have S10 := ((S9.far ne2 0 (.int .i64 (hiW (-(d + d))))).far ne2 1 (.int .u64 (loW (-(d + d))))).below hb10 (by simp; omega)
          have ui0 := T10.c0
          have ui1 := T10.c1
          have ui2 := T10.f0
          have ui3 := T10.f1
          have uj0 := S10.c0
          have uj1 := S10.c1
          have uj2 := S10.f0
          have uj3 := S10.f1
          go_wp2_with fail
          refine (Cmp_n (-(d + d)) b _ i7 i5).mono ?_
          rintro e w11 ⟨rfl, hb11⟩
          have z_w11 := hb11.size
          try simp at z_w11
          have z0_w11 : w.heap.size < w11.heap.size := by omega
          have y_w11 : w.heap.size ≤ w11.heap.size := by omega
          go_wp2_with fail
          refine (awake_any _).mono ?_
          rintro e w12 ⟨rfl, hb12⟩
          have z_w12 := hb12.size
          try simp at z_w12
          have z0_w12 : w.heap.size < w12.heap.size := by omega
          have y_w12 : w.heap.size ≤ w12.heap.size := by omega
          go_wp2
          go_ret
          exact ⟨rfl, by repeat (first | exact Below.refl _ _ | assumption | refine Below.setCell ?_ (by first | omega | (simp; done) | (simp; omega)) _ | refine Below.alloc ?_ (by first | omega | (simp; done) | (simp; omega)) _ | refine below_drewN ?_ _ | refine Below.drew ?_ | refine Below.trans ?_ (Below.mono (by assumption) (by first | omega | (simp; done) | (simp; omega))))⟩
      · have t := cmpI_ge (show 0 ≤ d + d by omega)
        by_cases c3 : cmpI (d + d) b < 0
        · have t2 : cmpI (d + d) b ≤ 0 := by unfold cmpI; split <;> (try split) <;> omega
          clear hd n6 bd cd n4 n5 hq2
          go_enter Try.func8, Try.ntmps8
          go_wp2_with fail
          refine (Div_any _ _ a b _ (isW_of ha) b0 b1).mono ?_
          rw [hB, hq]
          rintro e w1 ⟨rfl, hb1⟩
          have z_w1 := hb1.size
          try simp at z_w1
          have z0_w1 : w.heap.size < w1.heap.size := by omega
          have y_w1 : w.heap.size ≤ w1.heap.size := by omega
          have A1 : CellW w1 w.heap.size (hiW a) (loW a) := (CellW.new w _ _ _).below hb1 (by simp)
          go_wp2_with fail
          refine (Mul_any q b _ n2 n3 b0 b1).mono ?_
          rintro e w2 ⟨rfl, hb2⟩
          have z_w2 := hb2.size
          try simp at z_w2
          have z0_w2 : w.heap.size < w2.heap.size := by omega
          have y_w2 : w.heap.size ≤ w2.heap.size := by omega
          have A2 := A1.below hb2 (by omega)
          go_wp2_with fail
          refine (Neg_yes (q * b) (-(q * b)) _ i1 rfl i2).mono ?_
          rintro e w3 ⟨rfl, hb3⟩
          have z_w3 := hb3.size
          try simp at z_w3
          have z0_w3 : w.heap.size < w3.heap.size := by omega
          have y_w3 : w.heap.size ≤ w3.heap.size := by omega
          have A3 := A2.below hb3 (by omega)
          have ua0 := A3.c0
          have ua1 := A3.c1
          have ua2 := A3.f0
          have ua3 := A3.f1
          go_wp2_with fail
          refine (Add_yes a (-(q * b)) d _ ha i2 HD.out i3).mono ?_
          rintro e w4 ⟨rfl, hb4⟩
          have z_w4 := hb4.size
          try simp at z_w4
          have z0_w4 : w.heap.size < w4.heap.size := by omega
          have y_w4 : w.heap.size ≤ w4.heap.size := by omega
          go_wp2_with fail
          refine (Add_yes d d (d + d) _ i3 i3 rfl i4).mono ?_
          rintro e w5 ⟨rfl, hb5⟩
          have z_w5 := hb5.size
          try simp at z_w5
          have z0_w5 : w.heap.size < w5.heap.size := by omega
          have y_w5 : w.heap.size ≤ w5.heap.size := by omega
          go_wp2_with fail
          refine (Of_any b _ b0 b1).mono ?_
          rintro e w6 ⟨rfl, hb6⟩
          have z_w6 := hb6.size
          try simp at z_w6
          have z0_w6 : w.heap.size < w6.heap.size := by omega
          have y_w6 : w.heap.size ≤ w6.heap.size := by omega
          have x5_6 : w5.heap.size < w6.heap.size := by omega
          have ne1 : w6.heap.size ≠ w5.heap.size := by omega
          have ne2 : w5.heap.size ≠ w6.heap.size := by omega
          have T6 : CellW w6 w5.heap.size (hiW (d + d)) (loW (d + d)) := (CellW.new w5 _ _ _).below hb6 (by simp)
          have S6 : CellW (w6.alloc (.cells #[.int .i64 (hiW b), .int .u64 (loW b)] 25)) w6.heap.size (hiW b) (loW b) := CellW.new w6 _ _ _
          have ub0 := T6.c0
          have ub1 := T6.c1
          have ub2 := T6.f0
          have ub3 := T6.f1
          go_wp2_with fail
          refine (Sign_n (d + d) _ i4).mono ?_
          rintro e w8 ⟨rfl, hb8⟩
          have z_w8 := hb8.size
          try simp at z_w8
          have z0_w8 : w.heap.size < w8.heap.size := by omega
          have y_w8 : w.heap.size ≤ w8.heap.size := by omega
          have T8 := (T6.alloc x5_6 _).below hb8 (by simp; omega)
          have S8 := S6.below hb8 (by simp)
          have ue0 := T8.c0
          have ue1 := T8.c1
          have ue2 := T8.f0
          have ue3 := T8.f1
          have uf0 := S8.c0
          have uf1 := S8.c1
          have uf2 := S8.f0
          have uf3 := S8.f1
          go_wp2_with fail
          refine (Cmp_n (d + d) b _ i4 i5).mono ?_
          rintro e w10 ⟨rfl, hb10⟩
          have z_w10 := hb10.size
          try simp at z_w10
          have z0_w10 : w.heap.size < w10.heap.size := by omega
          have y_w10 : w.heap.size ≤ w10.heap.size := by omega
          have T10 := T8.below hb10 (by omega)
          have S10 := S8.below hb10 (by omega)
          have ui0 := T10.c0
          have ui1 := T10.c1
          have ui2 := T10.f0
          have ui3 := T10.f1
          have uj0 := S10.c0
          have uj1 := S10.c1
          have uj2 := S10.f0
          have uj3 := S10.f1
          go_wp2_with fail
          refine (Cmp_n (d + d) b _ i4 i5).mono ?_
          rintro e w11 ⟨rfl, hb11⟩
          have z_w11 := hb11.size
          try simp at z_w11
          have z0_w11 : w.heap.size < w11.heap.size := by omega
          have y_w11 : w.heap.size ≤ w11.heap.size := by omega
          go_wp2_with fail
          refine (awake_any _).mono ?_
          rintro e w12 ⟨rfl, hb12⟩
          have z_w12 := hb12.size
          try simp at z_w12
          have z0_w12 : w.heap.size < w12.heap.size := by omega
          have y_w12 : w.heap.size ≤ w12.heap.size := by omega
          go_wp2
          go_ret
          exact ⟨rfl, by repeat (first | exact Below.refl _ _ | assumption | refine Below.setCell ?_ (by first | omega | (simp; done) | (simp; omega)) _ | refine Below.alloc ?_ (by first | omega | (simp; done) | (simp; omega)) _ | refine below_drewN ?_ _ | refine Below.drew ?_ | refine Below.trans ?_ (Below.mono (by assumption) (by first | omega | (simp; done) | (simp; omega))))⟩
        · have t2 : cmpI (d + d) b ≤ 0 := by unfold cmpI; split <;> (try split) <;> omega
          have t4 : (q.tmod 2 == 0) = true := HQ2.out (N6.out (by unfold cmpI at c3; split at c3 <;> (try split at c3) <;> omega))
          clear hd n6 bd cd n4 n5 hq2
          go_enter Try.func8, Try.ntmps8
          go_wp2_with fail
          refine (Div_any _ _ a b _ (isW_of ha) b0 b1).mono ?_
          rw [hB, hq]
          rintro e w1 ⟨rfl, hb1⟩
          have z_w1 := hb1.size
          try simp at z_w1
          have z0_w1 : w.heap.size < w1.heap.size := by omega
          have y_w1 : w.heap.size ≤ w1.heap.size := by omega
          have A1 : CellW w1 w.heap.size (hiW a) (loW a) := (CellW.new w _ _ _).below hb1 (by simp)
          go_wp2_with fail
          refine (Mul_any q b _ n2 n3 b0 b1).mono ?_
          rintro e w2 ⟨rfl, hb2⟩
          have z_w2 := hb2.size
          try simp at z_w2
          have z0_w2 : w.heap.size < w2.heap.size := by omega
          have y_w2 : w.heap.size ≤ w2.heap.size := by omega
          have A2 := A1.below hb2 (by omega)
          go_wp2_with fail
          refine (Neg_yes (q * b) (-(q * b)) _ i1 rfl i2).mono ?_
          rintro e w3 ⟨rfl, hb3⟩
          have z_w3 := hb3.size
          try simp at z_w3
          have z0_w3 : w.heap.size < w3.heap.size := by omega
          have y_w3 : w.heap.size ≤ w3.heap.size := by omega
          have A3 := A2.below hb3 (by omega)
          have ua0 := A3.c0
          have ua1 := A3.c1
          have ua2 := A3.f0
          have ua3 := A3.f1
          go_wp2_with fail
          refine (Add_yes a (-(q * b)) d _ ha i2 HD.out i3).mono ?_
          rintro e w4 ⟨rfl, hb4⟩
          have z_w4 := hb4.size
          try simp at z_w4
          have z0_w4 : w.heap.size < w4.heap.size := by omega
          have y_w4 : w.heap.size ≤ w4.heap.size := by omega
          go_wp2_with fail
          refine (Add_yes d d (d + d) _ i3 i3 rfl i4).mono ?_
          rintro e w5 ⟨rfl, hb5⟩
          have z_w5 := hb5.size
          try simp at z_w5
          have z0_w5 : w.heap.size < w5.heap.size := by omega
          have y_w5 : w.heap.size ≤ w5.heap.size := by omega
          go_wp2_with fail
          refine (Of_any b _ b0 b1).mono ?_
          rintro e w6 ⟨rfl, hb6⟩
          have z_w6 := hb6.size
          try simp at z_w6
          have z0_w6 : w.heap.size < w6.heap.size := by omega
          have y_w6 : w.heap.size ≤ w6.heap.size := by omega
          have x5_6 : w5.heap.size < w6.heap.size := by omega
          have ne1 : w6.heap.size ≠ w5.heap.size := by omega
          have ne2 : w5.heap.size ≠ w6.heap.size := by omega
          have T6 : CellW w6 w5.heap.size (hiW (d + d)) (loW (d + d)) := (CellW.new w5 _ _ _).below hb6 (by simp)
          have S6 : CellW (w6.alloc (.cells #[.int .i64 (hiW b), .int .u64 (loW b)] 25)) w6.heap.size (hiW b) (loW b) := CellW.new w6 _ _ _
          have ub0 := T6.c0
          have ub1 := T6.c1
          have ub2 := T6.f0
          have ub3 := T6.f1
          go_wp2_with fail
          refine (Sign_n (d + d) _ i4).mono ?_
          rintro e w8 ⟨rfl, hb8⟩
          have z_w8 := hb8.size
          try simp at z_w8
          have z0_w8 : w.heap.size < w8.heap.size := by omega
          have y_w8 : w.heap.size ≤ w8.heap.size := by omega
          have T8 := (T6.alloc x5_6 _).below hb8 (by simp; omega)
          have S8 := S6.below hb8 (by simp)
          have ue0 := T8.c0
          have ue1 := T8.c1
          have ue2 := T8.f0
          have ue3 := T8.f1
          have uf0 := S8.c0
          have uf1 := S8.c1
          have uf2 := S8.f0
          have uf3 := S8.f1
          go_wp2_with fail
          refine (Cmp_n (d + d) b _ i4 i5).mono ?_
          rintro e w10 ⟨rfl, hb10⟩
          have z_w10 := hb10.size
          try simp at z_w10
          have z0_w10 : w.heap.size < w10.heap.size := by omega
          have y_w10 : w.heap.size ≤ w10.heap.size := by omega
          have T10 := T8.below hb10 (by omega)
          have S10 := S8.below hb10 (by omega)
          have ui0 := T10.c0
          have ui1 := T10.c1
          have ui2 := T10.f0
          have ui3 := T10.f1
          have uj0 := S10.c0
          have uj1 := S10.c1
          have uj2 := S10.f0
          have uj3 := S10.f1
          go_wp2_with fail
          refine (Cmp_n (d + d) b _ i4 i5).mono ?_
          rintro e w11 ⟨rfl, hb11⟩
          have z_w11 := hb11.size
          try simp at z_w11
          have z0_w11 : w.heap.size < w11.heap.size := by omega
          have y_w11 : w.heap.size ≤ w11.heap.size := by omega
          go_wp2_with fail
          refine (awake_any _).mono ?_
          rintro e w12 ⟨rfl, hb12⟩
          have z_w12 := hb12.size
          try simp at z_w12
          have z0_w12 : w.heap.size < w12.heap.size := by omega
          have y_w12 : w.heap.size ≤ w12.heap.size := by omega
          go_wp2
          go_ret
          exact ⟨rfl, by repeat (first | exact Below.refl _ _ | assumption | refine Below.setCell ?_ (by first | omega | (simp; done) | (simp; omega)) _ | refine Below.alloc ?_ (by first | omega | (simp; done) | (simp; omega)) _ | refine below_drewN ?_ _ | refine Below.drew ?_ | refine Below.trans ?_ (Below.mono (by assumption) (by first | omega | (simp; done) | (simp; omega))))⟩

theorem near_law (h l b : Int) (wh : (Lit.int .i64 h).wf = true) (wl : (Lit.int .u64 l).wf = true) (wb : (Lit.int .i64 b).wf = true) (w : World) :
    Calls Try.prog 8 #[.agg #[.int .i64 h, .int .u64 l], .int .i64 b] w fun e w' => e = .returned (.bool true) ∧ Below w.heap.size w w' := by
  obtain ⟨a, rfl, rfl, ha⟩ := wide_of wh wl
  exact near_walk a b w ha (bounds_i64 wb).1 (bounds_i64 wb).2
end Go.Proofs.Ytjilgfgchmdppaa
