/- Contracts of package wide: Div. -/
import Derived.Test.YtmdcfnifbkpedaaDv
namespace Go.Proofs.Ytmdcfnifbkpedaa
open Go.RowKit

theorem Div64_any (h l y : Int) (w : World) (h0 : 0 ≤ h) (h1 : h < y) (l0 : 0 ≤ l) (l1 : l ≤ 18446744073709551615) (y1 : y ≤ 18446744073709551615) :
    Calls Try.prog 32 #[.int .u64 h, .int .u64 l, .int .u64 y] w fun e w' => e = .returned (.tuple #[.int .u64 ((h * 18446744073709551616 + l) / y), .int .u64 ((h * 18446744073709551616 + l) % y)]) ∧ Below w.heap.size w w' := by
  by_cases p : h = 0
  · subst p
    have t1 : (y == 0) = false := by simp; omega
    have t3 : ¬ y ≤ 0 := by omega
    have hd := Int.ediv_nonneg l0 (show 0 ≤ y by omega)
    have hd1 : l / y ≤ l := Int.ediv_le_self _ l0
    go_enter Try.func32, Try.ntmps32
    go_wp2
    go_quiet (fail)
    go_wp2
    go_ret2
    exact ⟨retII (by simp) (by simp), by repeat (first | exact Below.refl _ _ | assumption | refine Below.setCell ?_ (by first | omega | (simp; done) | (simp; omega)) _ | refine Below.alloc ?_ (by first | omega | (simp; done) | (simp; omega)) _ | refine below_drewN ?_ _ | refine Below.drew ?_ | refine Below.trans ?_ (Below.mono (by assumption) (by first | omega | (simp; done) | (simp; omega))))⟩
  · refine (Div64_great h l y w (by omega) h1 l0 l1 y1).mono fun e w' k => ⟨k.1, ?_⟩
    rw [k.2]
    exact Below.refl _ _

theorem Div64_q (h l y n q r : Int) (w : World) (h0 : 0 ≤ h) (h1 : h < y) (l0 : 0 ≤ l) (l1 : l ≤ 18446744073709551615) (y1 : y ≤ 18446744073709551615) (hn : n = h * 18446744073709551616 + l) (hq : n / y = q) (hr : n % y = r) :
    Calls Try.prog 32 #[.int .u64 h, .int .u64 l, .int .u64 y] w fun e w' => e = .returned (.tuple #[.int .u64 q, .int .u64 r]) ∧ Below w.heap.size w w' := by
  subst hn hq hr
  exact Div64_any h l y w h0 h1 l0 l1 y1
theorem div_end {a b q : Int} (hb : b ≠ 0) (hq : q = rndN a.natAbs b.natAbs) (s : Bool) (hs : s = (decide (a < 0) != decide (b < 0))) : sgnI q s = divI a b ∧ sgnB q s = divB a b := by
  subst hq hs
  exact div_near hb
theorem sgn_bool {h l a : Int} (k : IsW h l a) (b : Int) : (!decide (h < 0) == decide (b < 0)) = (decide (a < 0) != decide (b < 0)) := by
  rw [isW_neg_hi k]
  cases decide (a < 0) <;> cases decide (b < 0) <;> rfl
theorem div_out {a b H L : Int} (e : (a.natAbs : Int) = H * 18446744073709551616 + L) (L0 : 0 ≤ L) (h : (b.natAbs : Int) ≤ H) : 0 = divI a b ∧ false = divB a b := by
  by_cases hb : b = 0
  · subst hb; exact div_zero a
  · refine div_far hb ?_
    have : 18446744073709551616 ≤ (a.natAbs : Int) / (b.natAbs : Int) := by
      apply Int.le_ediv_of_mul_le (by omega)
      have : (b.natAbs : Int) * 18446744073709551616 ≤ H * 18446744073709551616 := Int.mul_le_mul_of_nonneg_right h (by omega)
      omega
    omega

set_option maxHeartbeats 4000000 in
theorem Div_any (h1 l1 a b : Int) (w : World) (ha : IsW h1 l1 a) (b0 : -9223372036854775808 ≤ b) (b1 : b ≤ 9223372036854775807) :
    Calls Try.prog 10 #[.agg #[.int .i64 h1, .int .u64 l1], .int .i64 b] w fun e w' => e = .returned (.tuple #[.int .i64 (divI a b), .bool (divB a b)]) ∧ Below w.heap.size w w' := by
  have Ha := Lib.hid ha
  have hin := ha.in128
  have hA1 : (a.natAbs : Int) ≤ 170141183460469231731687303715884105728 := by unfold In128 at hin; omega
  obtain ⟨H, L, eH, eL, H0, H1, L0, L1, eA⟩ := halves (show (0 : Int) ≤ a.natAbs by omega) hA1
  have eB : loW b.natAbs = b.natAbs := by unfold loW; omega
  have EA := Lib.hid eA
  clear ha hin hA1 eA
  have B0 : (0 : Int) ≤ b.natAbs := by omega
  have B1 : (b.natAbs : Int) ≤ 9223372036854775808 := by omega
  by_cases far : (b.natAbs : Int) ≤ H
  · have K := Lib.hid (div_out EA.out L0 far)
    go_enter Try.func10, Try.ntmps10
    go_wp2_with fail
    refine (size_any _ _ _ _ Ha.out).mono ?_
    rintro e w1 ⟨rfl, hb1⟩
    obtain ⟨hc_w1, hf_w1⟩ := bcell hb1
    have z_w1 := hb1.size
    try simp at z_w1
    have z0_w1 : w.heap.size < w1.heap.size := by omega
    have y_w1 : w.heap.size ≤ w1.heap.size := by omega
    go_wp2_with fail
    refine (Of_any _ _ b0 b1).mono ?_
    rintro e w2 ⟨rfl, hb2⟩
    obtain ⟨hc_w2, hf_w2⟩ := bcell hb2
    have z_w2 := hb2.size
    try simp at z_w2
    have z0_w2 : w.heap.size < w2.heap.size := by omega
    have y_w2 : w.heap.size ≤ w2.heap.size := by omega
    go_wp2_with fail
    refine (size_any _ _ _ _ (isW_64 b0 b1)).mono ?_
    rintro e w3 ⟨rfl, hb3⟩
    obtain ⟨hc_w3, hf_w3⟩ := bcell hb3
    have z_w3 := hb3.size
    try simp at z_w3
    have z0_w3 : w.heap.size < w3.heap.size := by omega
    have y_w3 : w.heap.size ≤ w3.heap.size := by omega
    go_wp2
    go_ret2
    exact ⟨retIB K.out.1 K.out.2, by repeat (first | exact Below.refl _ _ | assumption | refine Below.setCell ?_ (by first | omega | (simp; done) | (simp; omega)) _ | refine Below.alloc ?_ (by first | omega | (simp; done) | (simp; omega)) _ | refine below_drewN ?_ _ | refine Below.drew ?_ | refine Below.trans ?_ (Below.mono (by assumption) (by first | omega | (simp; done) | (simp; omega))))⟩
  · have bn : b ≠ 0 := by
      intro hc; subst hc; simp at far; omega
    have BN := Lib.hid bn
    clear bn
    obtain ⟨q, hq⟩ : ∃ q, (a.natAbs : Int) / (b.natAbs : Int) = q := ⟨_, rfl⟩
    obtain ⟨r, hr⟩ : ∃ r, (a.natAbs : Int) % (b.natAbs : Int) = r := ⟨_, rfl⟩
    have r0 : 0 ≤ r := by rw [← hr]; exact Int.emod_nonneg _ (by have := BN.out; omega)
    have r1 : r < b.natAbs := by rw [← hr]; exact Int.emod_lt_of_pos _ (by have := BN.out; omega)
    have q0 : 0 ≤ q := by rw [← hq]; exact Int.ediv_nonneg (by omega) (by omega)
    have q1 : q ≤ 18446744073709551615 := by
      have : q < 18446744073709551616 := by
        rw [← hq]
        apply Int.ediv_lt_of_lt_mul (by have := BN.out; omega)
        have e := EA.out
        have : (H + 1) * 18446744073709551616 ≤ (b.natAbs : Int) * 18446744073709551616 := Int.mul_le_mul_of_nonneg_right (by omega) (by omega)
        omega
      omega
    have HQ := Lib.hid hq
    have HR := Lib.hid hr
    clear hq hr
    have hand := and_one q q0 q1
    by_cases c1 : 9223372036854775808 < q
    · have K := Lib.hid (div_far BN.out (a := a) (by rw [HQ.out]; exact c1))
      go_enter Try.func10, Try.ntmps10
      go_wp2_with fail
      refine (size_any _ _ _ _ Ha.out).mono ?_
      rintro e w1 ⟨rfl, hb1⟩
      obtain ⟨hc_w1, hf_w1⟩ := bcell hb1
      have z_w1 := hb1.size
      try simp at z_w1
      have z0_w1 : w.heap.size < w1.heap.size := by omega
      have y_w1 : w.heap.size ≤ w1.heap.size := by omega
      go_wp2_with fail
      refine (Of_any _ _ b0 b1).mono ?_
      rintro e w2 ⟨rfl, hb2⟩
      obtain ⟨hc_w2, hf_w2⟩ := bcell hb2
      have z_w2 := hb2.size
      try simp at z_w2
      have z0_w2 : w.heap.size < w2.heap.size := by omega
      have y_w2 : w.heap.size ≤ w2.heap.size := by omega
      go_wp2_with fail
      refine (size_any _ _ _ _ (isW_64 b0 b1)).mono ?_
      rintro e w3 ⟨rfl, hb3⟩
      obtain ⟨hc_w3, hf_w3⟩ := bcell hb3
      have z_w3 := hb3.size
      try simp at z_w3
      have z0_w3 : w.heap.size < w3.heap.size := by omega
      have y_w3 : w.heap.size ≤ w3.heap.size := by omega
      go_wp2_with fail
      refine (Div64_q _ _ _ _ q r _ H0 (by omega) L0 L1 (by omega) EA.out HQ.out HR.out).mono ?_
      rintro e w4 ⟨rfl, hb4⟩
      obtain ⟨hc_w4, hf_w4⟩ := bcell hb4
      have z_w4 := hb4.size
      try simp at z_w4
      have z0_w4 : w.heap.size < w4.heap.size := by omega
      have y_w4 : w.heap.size ≤ w4.heap.size := by omega
      go_wp2
      go_ret2
      exact ⟨retIB K.out.1 K.out.2, by repeat (first | exact Below.refl _ _ | assumption | refine Below.setCell ?_ (by first | omega | (simp; done) | (simp; omega)) _ | refine Below.alloc ?_ (by first | omega | (simp; done) | (simp; omega)) _ | refine below_drewN ?_ _ | refine Below.drew ?_ | refine Below.trans ?_ (Below.mono (by assumption) (by first | omega | (simp; done) | (simp; omega))))⟩
    · by_cases c2 : (b.natAbs : Int) < 2 * r
      · have K := Lib.hid (rnd_up (n := a.natAbs) (d := b.natAbs) (by rw [HR.out]; exact .inl c2))
        go_enter Try.func10, Try.ntmps10
        go_wp2_with fail
        refine (size_any _ _ _ _ Ha.out).mono ?_
        rintro e w1 ⟨rfl, hb1⟩
        obtain ⟨hc_w1, hf_w1⟩ := bcell hb1
        have z_w1 := hb1.size
        try simp at z_w1
        have z0_w1 : w.heap.size < w1.heap.size := by omega
        have y_w1 : w.heap.size ≤ w1.heap.size := by omega
        go_wp2_with fail
        refine (Of_any _ _ b0 b1).mono ?_
        rintro e w2 ⟨rfl, hb2⟩
        obtain ⟨hc_w2, hf_w2⟩ := bcell hb2
        have z_w2 := hb2.size
        try simp at z_w2
        have z0_w2 : w.heap.size < w2.heap.size := by omega
        have y_w2 : w.heap.size ≤ w2.heap.size := by omega
        go_wp2_with fail
        refine (size_any _ _ _ _ (isW_64 b0 b1)).mono ?_
        rintro e w3 ⟨rfl, hb3⟩
        obtain ⟨hc_w3, hf_w3⟩ := bcell hb3
        have z_w3 := hb3.size
        try simp at z_w3
        have z0_w3 : w.heap.size < w3.heap.size := by omega
        have y_w3 : w.heap.size ≤ w3.heap.size := by omega
        go_wp2_with fail
        refine (Div64_q _ _ _ _ q r _ H0 (by omega) L0 L1 (by omega) EA.out HQ.out HR.out).mono ?_
        rintro e w4 ⟨rfl, hb4⟩
        obtain ⟨hc_w4, hf_w4⟩ := bcell hb4
        have z_w4 := hb4.size
        try simp at z_w4
        have z0_w4 : w.heap.size < w4.heap.size := by omega
        have y_w4 : w.heap.size ≤ w4.heap.size := by omega
        go_wp2_with fail
        refine (signed_any _ _ _ (by omega) (by omega)).mono ?_
        rintro e w5 ⟨rfl, rfl⟩
        go_wp2
        go_ret2
        have K2 := div_end (q := q + 1) BN.out (by have := HQ.out; have := K.out; omega) _ (sgn_bool Ha.out b)
        exact ⟨retIB K2.1 K2.2, by repeat (first | exact Below.refl _ _ | assumption | refine Below.setCell ?_ (by first | omega | (simp; done) | (simp; omega)) _ | refine Below.alloc ?_ (by first | omega | (simp; done) | (simp; omega)) _ | refine below_drewN ?_ _ | refine Below.drew ?_ | refine Below.trans ?_ (Below.mono (by assumption) (by first | omega | (simp; done) | (simp; omega))))⟩
      · by_cases c3 : 2 * r = b.natAbs
        · have t3 : (r == (b.natAbs : Int) - r) = true := by simp; omega
          by_cases c4 : q % 2 = 1
          · have K := Lib.hid (rnd_up (n := a.natAbs) (d := b.natAbs) (by rw [HR.out, HQ.out]; exact .inr ⟨c3, c4⟩))
            have t4 : (q % 2 == 1) = true := by simp; omega
            clear c3 c4
            go_enter Try.func10, Try.ntmps10
            go_wp2_with fail
            refine (size_any _ _ _ _ Ha.out).mono ?_
            rintro e w1 ⟨rfl, hb1⟩
            obtain ⟨hc_w1, hf_w1⟩ := bcell hb1
            have z_w1 := hb1.size
            try simp at z_w1
            have z0_w1 : w.heap.size < w1.heap.size := by omega
            have y_w1 : w.heap.size ≤ w1.heap.size := by omega
            go_wp2_with fail
            refine (Of_any _ _ b0 b1).mono ?_
            rintro e w2 ⟨rfl, hb2⟩
            obtain ⟨hc_w2, hf_w2⟩ := bcell hb2
            have z_w2 := hb2.size
            try simp at z_w2
            have z0_w2 : w.heap.size < w2.heap.size := by omega
            have y_w2 : w.heap.size ≤ w2.heap.size := by omega
            go_wp2_with fail
            refine (size_any _ _ _ _ (isW_64 b0 b1)).mono ?_
            rintro e w3 ⟨rfl, hb3⟩
            obtain ⟨hc_w3, hf_w3⟩ := bcell hb3
            have z_w3 := hb3.size
            try simp at z_w3
            have z0_w3 : w.heap.size < w3.heap.size := by omega
            have y_w3 : w.heap.size ≤ w3.heap.size := by omega
            go_wp2_with fail
            refine (Div64_q _ _ _ _ q r _ H0 (by omega) L0 L1 (by omega) EA.out HQ.out HR.out).mono ?_
            rintro e w4 ⟨rfl, hb4⟩
            obtain ⟨hc_w4, hf_w4⟩ := bcell hb4
            have z_w4 := hb4.size
            try simp at z_w4
            have z0_w4 : w.heap.size < w4.heap.size := by omega
            have y_w4 : w.heap.size ≤ w4.heap.size := by omega
            go_wp2_with fail
            refine (signed_any _ _ _ (by omega) (by omega)).mono ?_
            rintro e w5 ⟨rfl, rfl⟩
            go_wp2
            go_ret2
            have K2 := div_end (q := q + 1) BN.out (by have := HQ.out; have := K.out; omega) _ (sgn_bool Ha.out b)
            exact ⟨retIB K2.1 K2.2, by repeat (first | exact Below.refl _ _ | assumption | refine Below.setCell ?_ (by first | omega | (simp; done) | (simp; omega)) _ | refine Below.alloc ?_ (by first | omega | (simp; done) | (simp; omega)) _ | refine below_drewN ?_ _ | refine Below.drew ?_ | refine Below.trans ?_ (Below.mono (by assumption) (by first | omega | (simp; done) | (simp; omega))))⟩
          · have K := Lib.hid (rnd_down (n := a.natAbs) (d := b.natAbs) (by rw [HR.out, HQ.out]; exact fun k => k.elim c2 (fun k => c4 k.2)))
            have t4 : (q % 2 == 1) = false := by simp; omega
            clear c3 c4
            go_enter Try.func10, Try.ntmps10
            go_wp2_with fail
            refine (size_any _ _ _ _ Ha.out).mono ?_
            rintro e w1 ⟨rfl, hb1⟩
            obtain ⟨hc_w1, hf_w1⟩ := bcell hb1
            have z_w1 := hb1.size
            try simp at z_w1
            have z0_w1 : w.heap.size < w1.heap.size := by omega
            have y_w1 : w.heap.size ≤ w1.heap.size := by omega
            go_wp2_with fail
            refine (Of_any _ _ b0 b1).mono ?_
            rintro e w2 ⟨rfl, hb2⟩
            obtain ⟨hc_w2, hf_w2⟩ := bcell hb2
            have z_w2 := hb2.size
            try simp at z_w2
            have z0_w2 : w.heap.size < w2.heap.size := by omega
            have y_w2 : w.heap.size ≤ w2.heap.size := by omega
            go_wp2_with fail
            refine (size_any _ _ _ _ (isW_64 b0 b1)).mono ?_
            rintro e w3 ⟨rfl, hb3⟩
            obtain ⟨hc_w3, hf_w3⟩ := bcell hb3
            have z_w3 := hb3.size
            try simp at z_w3
            have z0_w3 : w.heap.size < w3.heap.size := by omega
            have y_w3 : w.heap.size ≤ w3.heap.size := by omega
            go_wp2_with fail
            refine (Div64_q _ _ _ _ q r _ H0 (by omega) L0 L1 (by omega) EA.out HQ.out HR.out).mono ?_
            rintro e w4 ⟨rfl, hb4⟩
            obtain ⟨hc_w4, hf_w4⟩ := bcell hb4
            have z_w4 := hb4.size
            try simp at z_w4
            have z0_w4 : w.heap.size < w4.heap.size := by omega
            have y_w4 : w.heap.size ≤ w4.heap.size := by omega
            go_wp2_with fail
            refine (signed_any _ _ _ (by omega) (by omega)).mono ?_
            rintro e w5 ⟨rfl, rfl⟩
            go_wp2
            go_ret2
            have K2 := div_end (q := q) BN.out (by have := HQ.out; have := K.out; omega) _ (sgn_bool Ha.out b)
            exact ⟨retIB K2.1 K2.2, by repeat (first | exact Below.refl _ _ | assumption | refine Below.setCell ?_ (by first | omega | (simp; done) | (simp; omega)) _ | refine Below.alloc ?_ (by first | omega | (simp; done) | (simp; omega)) _ | refine below_drewN ?_ _ | refine Below.drew ?_ | refine Below.trans ?_ (Below.mono (by assumption) (by first | omega | (simp; done) | (simp; omega))))⟩
        · have t3 : (r == (b.natAbs : Int) - r) = false := by simp; omega
          have K := Lib.hid (rnd_down (n := a.natAbs) (d := b.natAbs) (by rw [HR.out]; exact fun k => k.elim c2 (fun k => c3 k.1)))
          clear c3
          go_enter Try.func10, Try.ntmps10
          go_wp2_with fail
          refine (size_any _ _ _ _ Ha.out).mono ?_
          rintro e w1 ⟨rfl, hb1⟩
          obtain ⟨hc_w1, hf_w1⟩ := bcell hb1
          have z_w1 := hb1.size
          try simp at z_w1
          have z0_w1 : w.heap.size < w1.heap.size := by omega
          have y_w1 : w.heap.size ≤ w1.heap.size := by omega
          go_wp2_with fail
          refine (Of_any _ _ b0 b1).mono ?_
          rintro e w2 ⟨rfl, hb2⟩
          obtain ⟨hc_w2, hf_w2⟩ := bcell hb2
          have z_w2 := hb2.size
          try simp at z_w2
          have z0_w2 : w.heap.size < w2.heap.size := by omega
          have y_w2 : w.heap.size ≤ w2.heap.size := by omega
          go_wp2_with fail
          refine (size_any _ _ _ _ (isW_64 b0 b1)).mono ?_
          rintro e w3 ⟨rfl, hb3⟩
          obtain ⟨hc_w3, hf_w3⟩ := bcell hb3
          have z_w3 := hb3.size
          try simp at z_w3
          have z0_w3 : w.heap.size < w3.heap.size := by omega
          have y_w3 : w.heap.size ≤ w3.heap.size := by omega
          go_wp2_with fail
          refine (Div64_q _ _ _ _ q r _ H0 (by omega) L0 L1 (by omega) EA.out HQ.out HR.out).mono ?_
          rintro e w4 ⟨rfl, hb4⟩
          obtain ⟨hc_w4, hf_w4⟩ := bcell hb4
          have z_w4 := hb4.size
          try simp at z_w4
          have z0_w4 : w.heap.size < w4.heap.size := by omega
          have y_w4 : w.heap.size ≤ w4.heap.size := by omega
          go_wp2_with fail
          refine (signed_any _ _ _ (by omega) (by omega)).mono ?_
          rintro e w5 ⟨rfl, rfl⟩
          go_wp2
          go_ret2
          have K2 := div_end (q := q) BN.out (by have := HQ.out; have := K.out; omega) _ (sgn_bool Ha.out b)
          exact ⟨retIB K2.1 K2.2, by repeat (first | exact Below.refl _ _ | assumption | refine Below.setCell ?_ (by first | omega | (simp; done) | (simp; omega)) _ | refine Below.alloc ?_ (by first | omega | (simp; done) | (simp; omega)) _ | refine below_drewN ?_ _ | refine Below.drew ?_ | refine Below.trans ?_ (Below.mono (by assumption) (by first | omega | (simp; done) | (simp; omega))))⟩
end Go.Proofs.Ytmdcfnifbkpedaa
