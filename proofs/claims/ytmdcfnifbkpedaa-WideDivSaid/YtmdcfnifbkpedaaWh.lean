/- Contracts of package wide: Part. -/
import Derived.Test.YtmdcfnifbkpedaaWf
import Derived.Test.YtmdcfnifbkpedaaWb
namespace Go.Proofs.Ytmdcfnifbkpedaa
open Go.RowKit

/-- a by b in parts of 2^32; 0 unless 0 <= a < b -/
def partI (a b : Int) : Int := if 0 ≤ a ∧ a < b then a * 4294967296 / b else 0
theorem partI_no {a b : Int} (h : a < 0 ∨ b ≤ a) : 0 = partI a b := by
  unfold partI; rw [if_neg (by omega)]
theorem cmpI_lt {a b : Int} (h : a < b) : cmpI a b < 0 := by unfold cmpI; rw [if_neg (by omega), if_pos h]; omega
theorem cmpI_ge {a b : Int} (h : b ≤ a) : 0 ≤ cmpI a b := by unfold cmpI; split <;> (try split) <;> omega

/-- i digits of a by b: p, and x is left -/
structure Parts (a b : Int) (i : Nat) (p x : Int) : Prop where
  e : p * b + x = a * 2 ^ i
  x0 : 0 ≤ x
  x1 : x < b
  p0 : 0 ≤ p
  p1 : p < 2 ^ i
theorem Parts.start {a b : Int} (a0 : 0 ≤ a) (ab : a < b) : Parts a b 0 0 a := ⟨by simp, a0, ab, by omega, by simp⟩
theorem Parts.low {a b : Int} {i : Nat} {p x : Int} (k : Parts a b i p x) (h : x < b - x) : Parts a b (i + 1) (p * 2) (x + x) := by
  obtain ⟨e, x0, x1, p0, p1⟩ := k
  refine ⟨?_, by omega, by omega, by omega, by rw [Int.pow_succ]; omega⟩
  rw [Int.pow_succ, ← Int.mul_assoc, ← e, Int.add_mul, Int.mul_right_comm]; omega
theorem Parts.high {a b : Int} {i : Nat} {p x : Int} (k : Parts a b i p x) (h : b - x ≤ x) : Parts a b (i + 1) (p * 2 + 1) (x - (b - x)) := by
  obtain ⟨e, x0, x1, p0, p1⟩ := k
  refine ⟨?_, by omega, by omega, by omega, by rw [Int.pow_succ]; omega⟩
  rw [Int.pow_succ, ← Int.mul_assoc, ← e, Int.add_mul (p * b), Int.mul_right_comm, Int.add_mul]; omega
theorem Parts.done {a b : Int} {p x : Int} (k : Parts a b 32 p x) (a0 : 0 ≤ a) (ab : a < b) : p = partI a b := by
  obtain ⟨e, x0, x1, p0, p1⟩ := k
  unfold partI
  rw [if_pos ⟨a0, ab⟩]
  rw [show (2 : Int) ^ 32 = 4294967296 from rfl] at e
  rw [← e, Int.mul_comm p b, Int.add_comm, Int.add_mul_ediv_left _ _ (by omega), Int.ediv_eq_zero_of_lt x0 x1]
  omega
theorem Parts.bound {a b : Int} {i : Nat} {p x : Int} (k : Parts a b i p x) (h : i ≤ 31) : p ≤ 2147483647 := by
  have h1 : 2 ^ i ≤ 2 ^ 31 := Nat.pow_le_pow_right (by omega) h
  have h2 : ((2 : Int) ^ i) = ((2 ^ i : Nat) : Int) := by simp
  have := k.p1
  have h3 : ((2 ^ i : Nat) : Int) ≤ ((2 ^ 31 : Nat) : Int) := Int.ofNat_le.2 h1
  have h4 : ((2 ^ 31 : Nat) : Int) = 2147483648 := rfl
  omega

set_option maxHeartbeats 2000000 in
theorem Part_any (h1 l1 h2 l2 a b : Int) (w : World) (ha : IsW h1 l1 a) (hb : IsW h2 l2 b) :
    Calls Try.prog 40 #[.agg #[.int .i64 h1, .int .u64 l1], .agg #[.int .i64 h2, .int .u64 l2]] w fun e w' => e = .returned (.int .u32 (partI a b)) ∧ Below w.heap.size w w' := by
  have Ha := Lib.hid ha
  have Hb := Lib.hid hb
  have b128 := hb.in128
  unfold In128 at b128
  clear ha hb
  by_cases p : a < 0
  · have K := Lib.hid (partI_no (b := b) (.inl p))
    have t := cmpI_lt p
    clear p b128
    go_enter Try.func40, Try.ntmps40
    go_wp2_with fail
    refine (Sign_any _ _ _ _ Ha.out).mono ?_
    rintro e w1 ⟨rfl, hb1⟩
    obtain ⟨hc_w1, hf_w1⟩ := bcell hb1
    have z_w1 := hb1.size
    try simp at z_w1
    have z0_w1 : w.heap.size < w1.heap.size := by omega
    have z1_w1 : w.heap.size + 1 < w1.heap.size := by omega
    have y_w1 : w.heap.size ≤ w1.heap.size := by omega
    go_wp2
    go_ret
    exact ⟨retI K.out, by repeat (first | exact Below.refl _ _ | assumption | refine Below.setCell ?_ (by first | omega | (simp; done) | (simp; omega)) _ | refine Below.alloc ?_ (by first | omega | (simp; done) | (simp; omega)) _ | refine below_drewN ?_ _ | refine Below.drew ?_ | refine Below.trans ?_ (Below.mono (by assumption) (by first | omega | (simp; done) | (simp; omega))))⟩
  · have t := cmpI_ge (show 0 ≤ a by omega)
    by_cases q : b ≤ a
    · have K := Lib.hid (partI_no (.inr q))
      have t2 := cmpI_ge q
      clear p q b128
      go_enter Try.func40, Try.ntmps40
      go_wp2_with fail
      refine (Sign_any _ _ _ _ Ha.out).mono ?_
      rintro e w1 ⟨rfl, hb1⟩
      obtain ⟨hc_w1, hf_w1⟩ := bcell hb1
      have z_w1 := hb1.size
      try simp at z_w1
      have z0_w1 : w.heap.size < w1.heap.size := by omega
      have z1_w1 : w.heap.size + 1 < w1.heap.size := by omega
      have y_w1 : w.heap.size ≤ w1.heap.size := by omega
      go_wp2_with fail
      refine (Cmp_any _ _ _ _ _ _ _ Ha.out Hb.out).mono ?_
      rintro e w2 ⟨rfl, hb2⟩
      obtain ⟨hc_w2, hf_w2⟩ := bcell hb2
      have z_w2 := hb2.size
      try simp at z_w2
      have z0_w2 : w.heap.size < w2.heap.size := by omega
      have z1_w2 : w.heap.size + 1 < w2.heap.size := by omega
      have y_w2 : w.heap.size ≤ w2.heap.size := by omega
      go_wp2
      go_ret
      exact ⟨retI K.out, by repeat (first | exact Below.refl _ _ | assumption | refine Below.setCell ?_ (by first | omega | (simp; done) | (simp; omega)) _ | refine Below.alloc ?_ (by first | omega | (simp; done) | (simp; omega)) _ | refine below_drewN ?_ _ | refine Below.drew ?_ | refine Below.trans ?_ (Below.mono (by assumption) (by first | omega | (simp; done) | (simp; omega))))⟩
    · have t2 := cmpI_lt (show a < b by omega)
      have K := Lib.hid (Parts.start (show 0 ≤ a by omega) (show a < b by omega))
      have B128 := Lib.hid b128
      have A0 := Lib.hid (show 0 ≤ a by omega)
      have AB := Lib.hid (show a < b by omega)
      clear b128 p q
      go_enter Try.func40, Try.ntmps40
      go_wp2_with fail
      refine (Sign_any _ _ _ _ Ha.out).mono ?_
      rintro e w1 ⟨rfl, hb1⟩
      obtain ⟨hc_w1, hf_w1⟩ := bcell hb1
      have z_w1 := hb1.size
      try simp at z_w1
      have z0_w1 : w.heap.size < w1.heap.size := by omega
      have z1_w1 : w.heap.size + 1 < w1.heap.size := by omega
      have y_w1 : w.heap.size ≤ w1.heap.size := by omega
      go_wp2_with fail
      refine (Cmp_any _ _ _ _ _ _ _ Ha.out Hb.out).mono ?_
      rintro e w2 ⟨rfl, hb2⟩
      obtain ⟨hc_w2, hf_w2⟩ := bcell hb2
      have z_w2 := hb2.size
      try simp at z_w2
      have z0_w2 : w.heap.size < w2.heap.size := by omega
      have z1_w2 : w.heap.size + 1 < w2.heap.size := by omega
      have y_w2 : w.heap.size ≤ w2.heap.size := by omega
      have C1 : CellW w2 w.heap.size h1 l1 := ⟨by go_simp, by go_simp, by go_simp, by go_simp⟩
      have C2 : CellW w2 (w.heap.size + 1) h2 l2 := ⟨by go_simp, by go_simp, by go_simp, by go_simp⟩
      have hb2' : Below w.heap.size w w2 := by repeat (first | exact Below.refl _ _ | assumption | refine Below.setCell ?_ (by first | omega | (simp; done) | (simp; omega)) _ | refine Below.alloc ?_ (by first | omega | (simp; done) | (simp; omega)) _ | refine below_drewN ?_ _ | refine Below.drew ?_ | refine Below.trans ?_ (Below.mono (by assumption) (by first | omega | (simp; done) | (simp; omega))))
      clear hb1 hb2 hc_w1 hf_w1 hc_w2 hf_w2 z0_w1 z1_w1
      go_wp2_with fail
      go_loopw [5, 16] (fun v i wr => ∃ (k : Nat) (p x hx lx : Int), k ≤ 32 ∧ i = .int .i64 k ∧ v = .int .u32 p ∧ Parts a b k p x ∧ IsW hx lx x ∧ CellW wr w.heap.size hx lx ∧ CellW wr (w.heap.size + 1) h2 l2 ∧ w.heap.size + 1 < wr.heap.size ∧ Below w.heap.size w wr) (fun _ i _ => 32 - (intOf i).toNat)
      case atStart => exact ⟨0, 0, a, h1, l1, by omega, rfl, rfl, K.out, Ha.out, C1, C2, z1_w2, hb2'⟩
      case round =>
        obtain ⟨k, p, x, hx, lx, hk, rfl, rfl, kp, kx, C, D, hz, hbr⟩ := hrel
        have c0 := C.c0
        have c1 := C.c1
        have f0 := C.f0
        have f1 := C.f1
        have d0 := D.c0
        have d1 := D.c1
        have g0 := D.f0
        have g1 := D.f1
        have hz0 : w.heap.size < wr.heap.size := by omega
        have p0 := kp.p0
        by_cases hlt : k < 32
        · have p1 := kp.bound (by omega)
          have lim : In128 (b - x) := by have := B128.out; have := A0.out; have := AB.out; have := kp.x0; have := kp.x1; unfold In128; omega
          have ew := wr128_of lim
          have kl : IsW (hiW (b - x)) (loW (b - x)) (b - x) := isW_of lim
          have KL := Lib.hid kl
          have KX := Lib.hid kx
          have KP := Lib.hid kp
          clear kl kx lim kp
          by_cases c : x < b - x
          · have t := cmpI_lt c
            have lim2 : In128 (x + x) := by have := B128.out; have := KP.out.x0; have := KP.out.x1; unfold In128; omega
            have ew2 := wr128_of lim2
            have KN := Lib.hid (isW_of lim2)
            clear lim2
            go_wp2_with fail
            refine (minus_any _ _ _ _ _ _ _ Hb.out KX.out).mono ?_
            rintro e w3 ⟨rfl, hb3⟩
            obtain ⟨hc_w3, hf_w3⟩ := bcell hb3
            have z_w3 := hb3.size
            try simp at z_w3
            have z0_w3 : w.heap.size < w3.heap.size := by omega
            have z1_w3 : w.heap.size + 1 < w3.heap.size := by omega
            have y_w3 : w.heap.size ≤ w3.heap.size := by omega
            rw [ew]
            go_wp2_with fail
            refine (Cmp_any _ _ _ _ _ _ _ KX.out KL.out).mono ?_
            rintro e w4 ⟨rfl, hb4⟩
            obtain ⟨hc_w4, hf_w4⟩ := bcell hb4
            have z_w4 := hb4.size
            try simp at z_w4
            have z0_w4 : w.heap.size < w4.heap.size := by omega
            have z1_w4 : w.heap.size + 1 < w4.heap.size := by omega
            have y_w4 : w.heap.size ≤ w4.heap.size := by omega
            go_wp2_with fail
            refine (plus_any _ _ _ _ _ _ _ KX.out KX.out).mono ?_
            rintro e w5 ⟨rfl, hb5⟩
            obtain ⟨hc_w5, hf_w5⟩ := bcell hb5
            have z_w5 := hb5.size
            try simp at z_w5
            have z0_w5 : w.heap.size < w5.heap.size := by omega
            have z1_w5 : w.heap.size + 1 < w5.heap.size := by omega
            have y_w5 : w.heap.size ≤ w5.heap.size := by omega
            rw [ew2]
            go_wp2_with fail
            go_roundw
            case rel => exact ⟨k + 1, _, x + x, _, _, by omega, by go_num, rfl, KP.out.low c, KN.out, ((((C.below hb3 hz0).alloc z0_w3 _).below hb4 (by simp; omega)).below hb5 z0_w4).set _ _, (((((D.below hb3 hz).alloc z1_w3 _).below hb4 (by simp; omega)).below hb5 z1_w4).far (by omega) _ _).far (by omega) _ _, by simp; omega, by repeat (first | exact Below.refl _ _ | assumption | refine Below.setCell ?_ (by first | omega | (simp; done) | (simp; omega)) _ | refine Below.alloc ?_ (by first | omega | (simp; done) | (simp; omega)) _ | refine below_drewN ?_ _ | refine Below.drew ?_ | refine Below.trans ?_ (Below.mono (by assumption) (by first | omega | (simp; done) | (simp; omega))))⟩
            case measure => simp [intOf]; omega
          · have t := cmpI_ge (show b - x ≤ x by omega)
            have lim2 : In128 (x - (b - x)) := by have := B128.out; have := KP.out.x0; have := KP.out.x1; unfold In128; omega
            have ew2 := wr128_of lim2
            have KN := Lib.hid (isW_of lim2)
            clear lim2
            go_wp2_with fail
            refine (minus_any _ _ _ _ _ _ _ Hb.out KX.out).mono ?_
            rintro e w3 ⟨rfl, hb3⟩
            obtain ⟨hc_w3, hf_w3⟩ := bcell hb3
            have z_w3 := hb3.size
            try simp at z_w3
            have z0_w3 : w.heap.size < w3.heap.size := by omega
            have z1_w3 : w.heap.size + 1 < w3.heap.size := by omega
            have y_w3 : w.heap.size ≤ w3.heap.size := by omega
            rw [ew]
            go_wp2_with fail
            refine (Cmp_any _ _ _ _ _ _ _ KX.out KL.out).mono ?_
            rintro e w4 ⟨rfl, hb4⟩
            obtain ⟨hc_w4, hf_w4⟩ := bcell hb4
            have z_w4 := hb4.size
            try simp at z_w4
            have z0_w4 : w.heap.size < w4.heap.size := by omega
            have z1_w4 : w.heap.size + 1 < w4.heap.size := by omega
            have y_w4 : w.heap.size ≤ w4.heap.size := by omega
            have zl := hb4.size
            simp at zl
            go_wp2_with fail
            refine (minus_any _ _ _ _ _ _ _ KX.out KL.out).mono ?_
            rintro e w5 ⟨rfl, hb5⟩
            obtain ⟨hc_w5, hf_w5⟩ := bcell hb5
            have z_w5 := hb5.size
            try simp at z_w5
            have z0_w5 : w.heap.size < w5.heap.size := by omega
            have z1_w5 : w.heap.size + 1 < w5.heap.size := by omega
            have y_w5 : w.heap.size ≤ w5.heap.size := by omega
            rw [ew2]
            go_wp2_with fail
            go_roundw
            case rel => exact ⟨k + 1, _, x - (b - x), _, _, by omega, by go_num, rfl, KP.out.high (by omega), KN.out, ((((C.below hb3 hz0).alloc z0_w3 _).below hb4 (by simp; omega)).below hb5 z0_w4).set _ _, (((((D.below hb3 hz).alloc z1_w3 _).below hb4 (by simp; omega)).below hb5 z1_w4).far (by omega) _ _).far (by omega) _ _, by simp; omega, by repeat (first | exact Below.refl _ _ | assumption | refine Below.setCell ?_ (by first | omega | (simp; done) | (simp; omega)) _ | refine Below.alloc ?_ (by first | omega | (simp; done) | (simp; omega)) _ | refine below_drewN ?_ _ | refine Below.drew ?_ | refine Below.trans ?_ (Below.mono (by assumption) (by first | omega | (simp; done) | (simp; omega))))⟩
            case measure => simp [intOf]; omega
        · obtain rfl : k = 32 := by omega
          have E := Lib.hid (kp.done A0.out AB.out)
          clear kp
          go_wp2_with fail
          go_ret
          exact ⟨retI E.out, by repeat (first | exact Below.refl _ _ | assumption | refine Below.setCell ?_ (by first | omega | (simp; done) | (simp; omega)) _ | refine Below.alloc ?_ (by first | omega | (simp; done) | (simp; omega)) _ | refine below_drewN ?_ _ | refine Below.drew ?_ | refine Below.trans ?_ (Below.mono (by assumption) (by first | omega | (simp; done) | (simp; omega))))⟩
end Go.Proofs.Ytmdcfnifbkpedaa
