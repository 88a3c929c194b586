/- The walks of stage 4's statements, whatever the program's own trig does as long as it tells sinF, cosF, tabS, towF. -/
import Derived.Test.YtjjfeehfgikobaaIe
import Derived.Test.YtjjfeehfgikobaaBv
import Derived.Deep.RegionHeld3
import Derived.OpenShut
namespace Go.Proofs.Ytjjfeehfgikobaa
open Go.RowKit
set_option linter.unusedVariables false

/-- what package trig tells -/
structure TrigC : Prop where
  table : ∀ (k : Int) (w : World), -9223372036854775808 ≤ k → k ≤ 9223372036854775807 → Calls Try.prog 10 #[.int .i64 k] w fun e w' => e = .returned (.int .i64 (tabS k)) ∧ Below w.heap.size w w'
  sin : ∀ (t : Int) (w : World), 0 ≤ t → t ≤ 4294967295 → Calls Try.prog 13 #[.int .u32 t] w fun e w' => e = .returned (.int .i64 (sinF t)) ∧ Below w.heap.size w w'
  cos : ∀ (t : Int) (w : World), 0 ≤ t → t ≤ 4294967295 → Calls Try.prog 15 #[.int .u32 t] w fun e w' => e = .returned (.int .i64 (cosF t)) ∧ Below w.heap.size w w'
  tow : ∀ (x y : Int) (w : World), -9223372036854775808 ≤ x → x ≤ 9223372036854775807 → -9223372036854775808 ≤ y → y ≤ 9223372036854775807 → Calls Try.prog 17 #[.int .i64 x, .int .i64 y] w fun e w' => e = .returned (.int .u32 (towF x y)) ∧ Below w.heap.size w w'

theorem trigAwake_any (C : TrigC) (w : World) :
    Calls Try.prog 12 #[] w fun e w' => e = .returned (.bool true) ∧ Below w.heap.size w w' := by
  have HC := Lib.hid C
  clear C
  go_enter Try.func12, Try.ntmps12
  go_wp2_with fail
  refine (HC.out.sin 536870912 _ (by omega) (by omega)).mono ?_
  rw [sin_eighth.1]
  rintro e w1 ⟨rfl, hb1⟩
  have z_w1 := hb1.size
  try simp at z_w1
  have y_w1 : w.heap.size ≤ w1.heap.size := by omega
  go_wp2_with fail
  refine (HC.out.tow 4294967296 4294967296 _ (by omega) (by omega) (by omega) (by omega)).mono ?_
  rw [tow_one]
  rintro e w2 ⟨rfl, hb2⟩
  have z_w2 := hb2.size
  try simp at z_w2
  have y_w2 : w.heap.size ≤ w2.heap.size := by omega
  go_wp2_with fail
  refine (HC.out.cos 0 _ (by omega) (by omega)).mono ?_
  rw [sin_eighth.2]
  rintro e w3 ⟨rfl, hb3⟩
  have z_w3 := hb3.size
  try simp at z_w3
  have y_w3 : w.heap.size ≤ w3.heap.size := by omega
  go_wp2
  go_ret
  exact ⟨rfl, by repeat (first | exact Below.refl _ _ | assumption | refine Below.setCell ?_ (by first | omega | (simp; done) | (simp; omega)) _ | refine Below.alloc ?_ (by first | omega | (simp; done) | (simp; omega)) _ | refine below_drewN ?_ _ | refine Below.drew ?_ | refine Below.trans ?_ (Below.mono (by assumption) (by first | omega | (simp; done) | (simp; omega))))⟩
theorem ttable_walk (C : TrigC) (k : Int) (w : World) (k0 : -9223372036854775808 ≤ k) (k1 : k ≤ 9223372036854775807) :
    Calls Try.prog 3 #[.int .i64 k] w fun e w' => e = .returned (.bool true) ∧ Below w.heap.size w w' := by
  have HC := Lib.hid C
  clear C
  go_enter Try.func3, Try.ntmps3
  go_wp2_with fail
  refine (HC.out.table k _ k0 k1).mono ?_
  rintro e w1 ⟨rfl, hb1⟩
  have z_w1 := hb1.size
  try simp at z_w1
  have y_w1 : w.heap.size ≤ w1.heap.size := by omega
  go_wp2_with fail
  refine (rTable_any k _ k0 k1).mono ?_
  rintro e w2 ⟨rfl, hb2⟩
  have z_w2 := hb2.size
  try simp at z_w2
  have y_w2 : w.heap.size ≤ w2.heap.size := by omega
  go_wp2_with fail
  refine (trigAwake_any HC.out _).mono ?_
  rintro e w3 ⟨rfl, hb3⟩
  have z_w3 := hb3.size
  try simp at z_w3
  have y_w3 : w.heap.size ≤ w3.heap.size := by omega
  go_wp2
  go_ret
  exact ⟨rfl, by repeat (first | exact Below.refl _ _ | assumption | refine Below.setCell ?_ (by first | omega | (simp; done) | (simp; omega)) _ | refine Below.alloc ?_ (by first | omega | (simp; done) | (simp; omega)) _ | refine below_drewN ?_ _ | refine Below.drew ?_ | refine Below.trans ?_ (Below.mono (by assumption) (by first | omega | (simp; done) | (simp; omega))))⟩
theorem tsin_walk (C : TrigC) (t : Int) (w : World) (t0 : 0 ≤ t) (t1 : t ≤ 4294967295) :
    Calls Try.prog 4 #[.int .u32 t] w fun e w' => e = .returned (.bool true) ∧ Below w.heap.size w w' := by
  have HC := Lib.hid C
  clear C
  go_enter Try.func4, Try.ntmps4
  go_wp2_with fail
  refine (HC.out.sin t _ t0 t1).mono ?_
  rintro e w1 ⟨rfl, hb1⟩
  have z_w1 := hb1.size
  try simp at z_w1
  have y_w1 : w.heap.size ≤ w1.heap.size := by omega
  go_wp2_with fail
  refine (rSin_any t _ t0 t1).mono ?_
  rintro e w2 ⟨rfl, hb2⟩
  have z_w2 := hb2.size
  try simp at z_w2
  have y_w2 : w.heap.size ≤ w2.heap.size := by omega
  go_wp2_with fail
  refine (HC.out.cos t _ t0 t1).mono ?_
  rintro e w3 ⟨rfl, hb3⟩
  have z_w3 := hb3.size
  try simp at z_w3
  have y_w3 : w.heap.size ≤ w3.heap.size := by omega
  go_wp2_with fail
  refine (rCos_any t _ t0 t1).mono ?_
  rintro e w4 ⟨rfl, hb4⟩
  have z_w4 := hb4.size
  try simp at z_w4
  have y_w4 : w.heap.size ≤ w4.heap.size := by omega
  go_wp2_with fail
  refine (trigAwake_any HC.out _).mono ?_
  rintro e w5 ⟨rfl, hb5⟩
  have z_w5 := hb5.size
  try simp at z_w5
  have y_w5 : w.heap.size ≤ w5.heap.size := by omega
  go_wp2
  go_ret
  exact ⟨rfl, by repeat (first | exact Below.refl _ _ | assumption | refine Below.setCell ?_ (by first | omega | (simp; done) | (simp; omega)) _ | refine Below.alloc ?_ (by first | omega | (simp; done) | (simp; omega)) _ | refine below_drewN ?_ _ | refine Below.drew ?_ | refine Below.trans ?_ (Below.mono (by assumption) (by first | omega | (simp; done) | (simp; omega))))⟩
theorem ttow_walk (C : TrigC) (x y : Int) (w : World) (x0 : -9223372036854775808 ≤ x) (x1 : x ≤ 9223372036854775807) (y0 : -9223372036854775808 ≤ y) (y1 : y ≤ 9223372036854775807) :
    Calls Try.prog 5 #[.int .i64 x, .int .i64 y] w fun e w' => e = .returned (.bool true) ∧ Below w.heap.size w w' := by
  have HC := Lib.hid C
  clear C
  go_enter Try.func5, Try.ntmps5
  go_wp2_with fail
  refine (HC.out.tow x y _ x0 x1 y0 y1).mono ?_
  rintro e w1 ⟨rfl, hb1⟩
  have z_w1 := hb1.size
  try simp at z_w1
  have y_w1 : w.heap.size ≤ w1.heap.size := by omega
  go_wp2_with fail
  refine (rTowards_any x y _ x0 x1 y0 y1).mono ?_
  rintro e w2 ⟨rfl, hb2⟩
  have z_w2 := hb2.size
  try simp at z_w2
  have y_w2 : w.heap.size ≤ w2.heap.size := by omega
  go_wp2_with fail
  refine (trigAwake_any HC.out _).mono ?_
  rintro e w3 ⟨rfl, hb3⟩
  have z_w3 := hb3.size
  try simp at z_w3
  have y_w3 : w.heap.size ≤ w3.heap.size := by omega
  go_wp2
  go_ret
  exact ⟨rfl, by repeat (first | exact Below.refl _ _ | assumption | refine Below.setCell ?_ (by first | omega | (simp; done) | (simp; omega)) _ | refine Below.alloc ?_ (by first | omega | (simp; done) | (simp; omega)) _ | refine below_drewN ?_ _ | refine Below.drew ?_ | refine Below.trans ?_ (Below.mono (by assumption) (by first | omega | (simp; done) | (simp; omega))))⟩
theorem tturns_walk (C : TrigC) (t : Int) (w : World) (t0 : 0 ≤ t) (t1 : t ≤ 4294967295) :
    Calls Try.prog 6 #[.int .u32 t] w fun e w' => e = .returned (.bool true) ∧ Below w.heap.size w w' := by
  have b := sin_in t0
  have s0 := b.1
  have s1 := b.2
  have E1 := Lib.hid (sin_half t0 (by omega))
  have E2 := Lib.hid (sin_mirror t0 (by omega))
  have E3 := Lib.hid (cos_even t0 (by omega))
  obtain ⟨s, hs⟩ : ∃ s, sinF t = s := ⟨_, rfl⟩
  rw [hs] at s0 s1 E1 E2
  obtain ⟨c, hc⟩ : ∃ c, cosF t = c := ⟨_, rfl⟩
  rw [hc] at E3
  have HS := Lib.hid hs
  have HK := Lib.hid hc
  have HC := Lib.hid C
  clear C b hs hc
  go_enter Try.func6, Try.ntmps6
  go_wp2_with fail
  refine (HC.out.sin t _ t0 t1).mono ?_
  rw [HS.out]
  rintro e w1 ⟨rfl, hb1⟩
  have z_w1 := hb1.size
  try simp at z_w1
  have y_w1 : w.heap.size ≤ w1.heap.size := by omega
  go_wp2_with fail
  refine (HC.out.sin ((t + 2147483648) % 4294967296) _ (by omega) (by omega)).mono ?_
  rw [E1.out]
  rintro e w2 ⟨rfl, hb2⟩
  have z_w2 := hb2.size
  try simp at z_w2
  have y_w2 : w.heap.size ≤ w2.heap.size := by omega
  go_wp2_with fail
  refine (HC.out.sin ((2147483648 - t) % 4294967296) _ (by omega) (by omega)).mono ?_
  rw [E2.out]
  rintro e w3 ⟨rfl, hb3⟩
  have z_w3 := hb3.size
  try simp at z_w3
  have y_w3 : w.heap.size ≤ w3.heap.size := by omega
  go_wp2_with fail
  refine (HC.out.cos t _ t0 t1).mono ?_
  rw [HK.out]
  rintro e w4 ⟨rfl, hb4⟩
  have z_w4 := hb4.size
  try simp at z_w4
  have y_w4 : w.heap.size ≤ w4.heap.size := by omega
  go_wp2_with fail
  refine (HC.out.cos ((-t) % 4294967296) _ (by omega) (by omega)).mono ?_
  rw [← E3.out]
  rintro e w5 ⟨rfl, hb5⟩
  have z_w5 := hb5.size
  try simp at z_w5
  have y_w5 : w.heap.size ≤ w5.heap.size := by omega
  go_wp2_with fail
  refine (trigAwake_any HC.out _).mono ?_
  rintro e w6 ⟨rfl, hb6⟩
  have z_w6 := hb6.size
  try simp at z_w6
  have y_w6 : w.heap.size ≤ w6.heap.size := by omega
  go_wp2
  go_ret
  exact ⟨rfl, by repeat (first | exact Below.refl _ _ | assumption | refine Below.setCell ?_ (by first | omega | (simp; done) | (simp; omega)) _ | refine Below.alloc ?_ (by first | omega | (simp; done) | (simp; omega)) _ | refine below_drewN ?_ _ | refine Below.drew ?_ | refine Below.trans ?_ (Below.mono (by assumption) (by first | omega | (simp; done) | (simp; omega))))⟩
theorem trises_walk (C : TrigC) (a b : Int) (w : World) (a0 : 0 ≤ a) (a1 : a ≤ 4294967295) (b0 : 0 ≤ b) (b1 : b ≤ 4294967295) :
    Calls Try.prog 7 #[.int .u32 a, .int .u32 b] w fun e w' => e = .returned (.bool true) ∧ Below w.heap.size w w' := by
  have HC := Lib.hid C
  clear C
  by_cases p : b < a
  · go_enter Try.func7, Try.ntmps7
    go_wp2_with fail
    refine (trigAwake_any HC.out _).mono ?_
    rintro e w1 ⟨rfl, hb1⟩
    have z_w1 := hb1.size
    try simp at z_w1
    have y_w1 : w.heap.size ≤ w1.heap.size := by omega
    go_wp2
    go_ret
    exact ⟨rfl, by repeat (first | exact Below.refl _ _ | assumption | refine Below.setCell ?_ (by first | omega | (simp; done) | (simp; omega)) _ | refine Below.alloc ?_ (by first | omega | (simp; done) | (simp; omega)) _ | refine below_drewN ?_ _ | refine Below.drew ?_ | refine Below.trans ?_ (Below.mono (by assumption) (by first | omega | (simp; done) | (simp; omega))))⟩
  · by_cases q : 1073741824 < b
    · go_enter Try.func7, Try.ntmps7
      go_wp2_with fail
      refine (trigAwake_any HC.out _).mono ?_
      rintro e w1 ⟨rfl, hb1⟩
      have z_w1 := hb1.size
      try simp at z_w1
      have y_w1 : w.heap.size ≤ w1.heap.size := by omega
      go_wp2
      go_ret
      exact ⟨rfl, by repeat (first | exact Below.refl _ _ | assumption | refine Below.setCell ?_ (by first | omega | (simp; done) | (simp; omega)) _ | refine Below.alloc ?_ (by first | omega | (simp; done) | (simp; omega)) _ | refine below_drewN ?_ _ | refine Below.drew ?_ | refine Below.trans ?_ (Below.mono (by assumption) (by first | omega | (simp; done) | (simp; omega))))⟩
    · have m := sin_rises a0 (show a ≤ b by omega) (by omega)
      have m0 := m.1
      have m1 := m.2
      clear m
      go_enter Try.func7, Try.ntmps7
      go_wp2_with fail
      refine (HC.out.sin a _ a0 a1).mono ?_
      rintro e w1 ⟨rfl, hb1⟩
      have z_w1 := hb1.size
      try simp at z_w1
      have y_w1 : w.heap.size ≤ w1.heap.size := by omega
      go_wp2_with fail
      refine (HC.out.sin b _ b0 b1).mono ?_
      rintro e w2 ⟨rfl, hb2⟩
      have z_w2 := hb2.size
      try simp at z_w2
      have y_w2 : w.heap.size ≤ w2.heap.size := by omega
      go_wp2_with fail
      refine (HC.out.cos a _ a0 a1).mono ?_
      rintro e w3 ⟨rfl, hb3⟩
      have z_w3 := hb3.size
      try simp at z_w3
      have y_w3 : w.heap.size ≤ w3.heap.size := by omega
      go_wp2_with fail
      refine (HC.out.cos b _ b0 b1).mono ?_
      rintro e w4 ⟨rfl, hb4⟩
      have z_w4 := hb4.size
      try simp at z_w4
      have y_w4 : w.heap.size ≤ w4.heap.size := by omega
      go_wp2_with fail
      refine (trigAwake_any HC.out _).mono ?_
      rintro e w5 ⟨rfl, hb5⟩
      have z_w5 := hb5.size
      try simp at z_w5
      have y_w5 : w.heap.size ≤ w5.heap.size := by omega
      go_wp2
      go_ret
      exact ⟨rfl, by repeat (first | exact Below.refl _ _ | assumption | refine Below.setCell ?_ (by first | omega | (simp; done) | (simp; omega)) _ | refine Below.alloc ?_ (by first | omega | (simp; done) | (simp; omega)) _ | refine below_drewN ?_ _ | refine Below.drew ?_ | refine Below.trans ?_ (Below.mono (by assumption) (by first | omega | (simp; done) | (simp; omega))))⟩
theorem tback_walk (C : TrigC) (x y : Int) (w : World) (x0 : -9223372036854775808 ≤ x) (x1 : x ≤ 9223372036854775807) (y0 : -9223372036854775808 ≤ y) (y1 : y ≤ 9223372036854775807) :
    Calls Try.prog 9 #[.int .i64 x, .int .i64 y] w fun e w' => e = .returned (.bool true) ∧ Below w.heap.size w w' := by
  have HC := Lib.hid C
  clear C
  by_cases p1 : x = 0
  · subst p1
    go_enter Try.func9, Try.ntmps9
    go_wp2_with fail
    refine (trigAwake_any HC.out _).mono ?_
    rintro e w1 ⟨rfl, hb1⟩
    have z_w1 := hb1.size
    try simp at z_w1
    have y_w1 : w.heap.size ≤ w1.heap.size := by omega
    go_wp2
    go_ret
    exact ⟨rfl, by repeat (first | exact Below.refl _ _ | assumption | refine Below.setCell ?_ (by first | omega | (simp; done) | (simp; omega)) _ | refine Below.alloc ?_ (by first | omega | (simp; done) | (simp; omega)) _ | refine below_drewN ?_ _ | refine Below.drew ?_ | refine Below.trans ?_ (Below.mono (by assumption) (by first | omega | (simp; done) | (simp; omega))))⟩
  have q1 := ne_beq p1
  by_cases p2 : y = 0
  · subst p2
    go_enter Try.func9, Try.ntmps9
    go_wp2_with fail
    refine (trigAwake_any HC.out _).mono ?_
    rintro e w1 ⟨rfl, hb1⟩
    have z_w1 := hb1.size
    try simp at z_w1
    have y_w1 : w.heap.size ≤ w1.heap.size := by omega
    go_wp2
    go_ret
    exact ⟨rfl, by repeat (first | exact Below.refl _ _ | assumption | refine Below.setCell ?_ (by first | omega | (simp; done) | (simp; omega)) _ | refine Below.alloc ?_ (by first | omega | (simp; done) | (simp; omega)) _ | refine below_drewN ?_ _ | refine Below.drew ?_ | refine Below.trans ?_ (Below.mono (by assumption) (by first | omega | (simp; done) | (simp; omega))))⟩
  have q2 := ne_beq p2
  by_cases p3 : x = -9223372036854775808
  · subst p3
    go_enter Try.func9, Try.ntmps9
    go_wp2_with fail
    refine (trigAwake_any HC.out _).mono ?_
    rintro e w1 ⟨rfl, hb1⟩
    have z_w1 := hb1.size
    try simp at z_w1
    have y_w1 : w.heap.size ≤ w1.heap.size := by omega
    go_wp2
    go_ret
    exact ⟨rfl, by repeat (first | exact Below.refl _ _ | assumption | refine Below.setCell ?_ (by first | omega | (simp; done) | (simp; omega)) _ | refine Below.alloc ?_ (by first | omega | (simp; done) | (simp; omega)) _ | refine below_drewN ?_ _ | refine Below.drew ?_ | refine Below.trans ?_ (Below.mono (by assumption) (by first | omega | (simp; done) | (simp; omega))))⟩
  have q3 := ne_beq p3
  by_cases p4 : y = -9223372036854775808
  · subst p4
    go_enter Try.func9, Try.ntmps9
    go_wp2_with fail
    refine (trigAwake_any HC.out _).mono ?_
    rintro e w1 ⟨rfl, hb1⟩
    have z_w1 := hb1.size
    try simp at z_w1
    have y_w1 : w.heap.size ≤ w1.heap.size := by omega
    go_wp2
    go_ret
    exact ⟨rfl, by repeat (first | exact Below.refl _ _ | assumption | refine Below.setCell ?_ (by first | omega | (simp; done) | (simp; omega)) _ | refine Below.alloc ?_ (by first | omega | (simp; done) | (simp; omega)) _ | refine below_drewN ?_ _ | refine Below.drew ?_ | refine Below.trans ?_ (Below.mono (by assumption) (by first | omega | (simp; done) | (simp; omega))))⟩
  have q4 := ne_beq p4
  have E := Lib.hid (tow_back p1 p2 (by omega) x1 (by omega) y1)
  obtain ⟨T, hT⟩ : ∃ T, towF x y = T := ⟨_, rfl⟩
  have HT := Lib.hid hT
  rw [hT] at E
  clear hT
  go_enter Try.func9, Try.ntmps9
  go_wp2_with fail
  refine (HC.out.tow (-x) (-y) _ (by omega) (by omega) (by omega) (by omega)).mono ?_
  rw [E.out]
  rintro e w1 ⟨rfl, hb1⟩
  have z_w1 := hb1.size
  try simp at z_w1
  have y_w1 : w.heap.size ≤ w1.heap.size := by omega
  go_wp2_with fail
  refine (HC.out.tow x y _ x0 x1 y0 y1).mono ?_
  rw [HT.out]
  rintro e w2 ⟨rfl, hb2⟩
  have z_w2 := hb2.size
  try simp at z_w2
  have y_w2 : w.heap.size ≤ w2.heap.size := by omega
  go_wp2_with fail
  refine (trigAwake_any HC.out _).mono ?_
  rintro e w3 ⟨rfl, hb3⟩
  have z_w3 := hb3.size
  try simp at z_w3
  have y_w3 : w.heap.size ≤ w3.heap.size := by omega
  go_wp2
  go_ret
  exact ⟨rfl, by repeat (first | exact Below.refl _ _ | assumption | refine Below.setCell ?_ (by first | omega | (simp; done) | (simp; omega)) _ | refine Below.alloc ?_ (by first | omega | (simp; done) | (simp; omega)) _ | refine below_drewN ?_ _ | refine Below.drew ?_ | refine Below.trans ?_ (Below.mono (by assumption) (by first | omega | (simp; done) | (simp; omega))))⟩
end Go.Proofs.Ytjjfeehfgikobaa
