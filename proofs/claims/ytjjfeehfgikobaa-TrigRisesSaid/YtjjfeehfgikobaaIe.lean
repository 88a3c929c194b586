/- Contracts of the document's trig: holds, first, Towards. -/
import Derived.Test.YtjjfeehfgikobaaId
import Derived.Test.YtjjfeehfgikobaaBg
namespace Go.Proofs.Ytjjfeehfgikobaa
open Go.RowKit
set_option linter.unusedVariables false

def holdsB (x y t : Int) : Bool := decide (x * sinF t ≤ y * cosF t)
theorem holdsB_iff {x y t : Int} : holdsB x y t = true ↔ holdsF x y t := by unfold holdsB holdsF; rw [decide_eq_true_iff]
theorem cmp_holds (a b : Int) : decide (0 ≤ cmpI a b) = decide (b ≤ a) := by
  unfold cmpI
  by_cases h : a = b
  · rw [if_pos h]; subst h; simp
  · rw [if_neg h]
    by_cases g : a < b
    · rw [if_pos g, decide_eq_false (by omega), decide_eq_false (by omega)]
    · rw [if_neg g, decide_eq_true (by omega), decide_eq_true (by omega)]
theorem sin_64 {t : Int} (h0 : 0 ≤ t) : -4294967296 ≤ sinF t ∧ sinF t ≤ 4294967296 ∧ -4294967296 ≤ cosF t ∧ cosF t ≤ 4294967296 := by
  have a := sin_in h0
  have b := sin_in (t := (t + 1073741824) % 4294967296) (by omega)
  exact ⟨a.1, a.2, b.1, b.2⟩
theorem rholds_any (x y t : Int) (w : World) (x0 : -9223372036854775808 ≤ x) (x1 : x ≤ 9223372036854775807) (y0 : -9223372036854775808 ≤ y) (y1 : y ≤ 9223372036854775807) (t0 : 0 ≤ t) (t1 : t ≤ 4294967295) :
    Calls Try.prog 50 #[.int .i64 x, .int .i64 y, .int .u32 t] w fun e w' => e = .returned (.bool (holdsB x y t)) ∧ Below w.heap.size w w' := by
  have B := sin_64 t0
  have E := Lib.hid (show decide (0 ≤ cmpI (y * cosF t) (x * sinF t)) = holdsB x y t from cmp_holds _ _)
  obtain ⟨s, hs⟩ : ∃ s, sinF t = s := ⟨_, rfl⟩
  obtain ⟨c, hc⟩ : ∃ c, cosF t = c := ⟨_, rfl⟩
  rw [hs, hc] at B E
  have HS := Lib.hid hs
  have HC := Lib.hid hc
  have I1 := Lib.hid (mul_128 (a := y) (b := c) (by omega) (by omega) (by omega) (by omega))
  have I2 := Lib.hid (mul_128 (a := x) (b := s) (by omega) (by omega) (by omega) (by omega))
  clear hs hc
  go_enter Try.func50, Try.ntmps50
  go_wp2_with fail
  refine (rCos_any t _ t0 t1).mono ?_
  rw [HC.out]
  rintro e w1 ⟨rfl, hb1⟩
  have z_w1 := hb1.size
  try simp at z_w1
  have y_w1 : w.heap.size ≤ w1.heap.size := by omega
  go_wp2_with fail
  refine (rMul_any y c _ y0 y1 (by omega) (by omega)).mono ?_
  rintro e w2 ⟨rfl, hb2⟩
  have z_w2 := hb2.size
  try simp at z_w2
  have y_w2 : w.heap.size ≤ w2.heap.size := by omega
  go_wp2_with fail
  refine (rSin_any t _ t0 t1).mono ?_
  rw [HS.out]
  rintro e w3 ⟨rfl, hb3⟩
  have z_w3 := hb3.size
  try simp at z_w3
  have y_w3 : w.heap.size ≤ w3.heap.size := by omega
  go_wp2_with fail
  refine (rMul_any x s _ x0 x1 (by omega) (by omega)).mono ?_
  rintro e w4 ⟨rfl, hb4⟩
  have z_w4 := hb4.size
  try simp at z_w4
  have y_w4 : w.heap.size ≤ w4.heap.size := by omega
  go_wp2_with fail
  refine (rCmp_any (y * c) (x * s) _ I1.out I2.out).mono ?_
  rintro e w5 ⟨rfl, hb5⟩
  have z_w5 := hb5.size
  try simp at z_w5
  have y_w5 : w.heap.size ≤ w5.heap.size := by omega
  go_wp2
  go_ret
  exact ⟨by rw [← E.out]; rfl, by repeat (first | exact Below.refl _ _ | assumption | refine Below.setCell ?_ (by first | omega | (simp; done) | (simp; omega)) _ | refine Below.alloc ?_ (by first | omega | (simp; done) | (simp; omega)) _ | refine below_drewN ?_ _ | refine Below.drew ?_ | refine Below.trans ?_ (Below.mono (by assumption) (by first | omega | (simp; done) | (simp; omega))))⟩
theorem OpenT.fits {x y t : Int} {u : Nat} (k : OpenT x y t (u + 1)) : ∃ p : Int, IntKind.u32.wrap (2 ^ u) = p ∧ 1 ≤ p ∧ t + p ≤ 1073741824 ∧ Hid (p = 2 ^ u) := by
  have b := k.t1
  have a := k.t0
  rw [Int.pow_succ] at b
  have : (0 : Int) < 2 ^ u := Int.pow_pos (by omega)
  exact ⟨2 ^ u, by rw [IntKind.wrap_u32]; omega, by omega, by omega, rfl⟩
set_option maxHeartbeats 2000000 in
theorem rfirst_any (x y : Int) (w : World) (x0 : 0 ≤ x) (x1 : x ≤ 9223372036854775807) (y0 : 0 ≤ y) (y1 : y ≤ 9223372036854775807) :
    Calls Try.prog 30 #[.int .i64 x, .int .i64 y] w fun e w' => e = .returned (.int .u32 (firstF x y)) ∧ Below w.heap.size w w' := by
  by_cases h : holdsF x y 1073741824
  · have E := Lib.hid (firstF_eq x0 y0 (first_top h))
    have H := Lib.hid (holdsB_iff.2 h)
    clear h
    go_enter Try.func30, Try.ntmps30
    go_wp2_with fail
    refine (rholds_any x y 1073741824 _ (by omega) x1 (by omega) y1 (by omega) (by omega)).mono ?_
    rw [H.out]
    rintro e w1 ⟨rfl, hb1⟩
    have z_w1 := hb1.size
    try simp at z_w1
    have y_w1 : w.heap.size ≤ w1.heap.size := by omega
    go_wp2
    go_ret
    exact ⟨retI E.out.symm, by repeat (first | exact Below.refl _ _ | assumption | refine Below.setCell ?_ (by first | omega | (simp; done) | (simp; omega)) _ | refine Below.alloc ?_ (by first | omega | (simp; done) | (simp; omega)) _ | refine below_drewN ?_ _ | refine Below.drew ?_ | refine Below.trans ?_ (Below.mono (by assumption) (by first | omega | (simp; done) | (simp; omega))))⟩
  · have H := Lib.hid (show holdsB x y 1073741824 = false by rw [Bool.eq_false_iff]; exact fun k => h (holdsB_iff.1 k))
    have O := Lib.hid (open_start y0 h)
    clear h
    go_enter Try.func30, Try.ntmps30
    go_wp2_with fail
    refine (rholds_any x y 1073741824 _ (by omega) x1 (by omega) y1 (by omega) (by omega)).mono ?_
    rw [H.out]
    rintro e w1 ⟨rfl, hb1⟩
    have z_w1 := hb1.size
    try simp at z_w1
    have y_w1 : w.heap.size ≤ w1.heap.size := by omega
    have B1 : Below w.heap.size w w1 := by repeat (first | exact Below.refl _ _ | assumption | refine Below.setCell ?_ (by first | omega | (simp; done) | (simp; omega)) _ | refine Below.alloc ?_ (by first | omega | (simp; done) | (simp; omega)) _ | refine below_drewN ?_ _ | refine Below.drew ?_ | refine Below.trans ?_ (Below.mono (by assumption) (by first | omega | (simp; done) | (simp; omega))))
    go_wp2
    go_loopw [5, 6] (fun v i wr => ∃ (n : Nat) (t : Int), n ≤ 30 ∧ i = .int .i64 ((n : Int) - 1) ∧ v = .int .u32 t ∧ OpenT x y t n ∧ Below w.heap.size w wr) (fun _ i _ => (intOf i + 1).toNat)
    case atStart => exact ⟨30, 0, by omega, by go_num, rfl, O.out, B1⟩
    case round =>
      clear B1 hb1
      obtain ⟨n, t, hn, rfl, rfl, K, B⟩ := hrel
      cases n with
      | zero =>
        have F := Lib.hid (show t = firstF x y from (firstF_eq x0 y0 K.first).symm)
        rw [show (((0 : Nat) : Int) - 1) = -1 from rfl]
        clear K
        go_wp2
        go_ret
        exact ⟨retI F.out, B⟩
      | succ u =>
        obtain ⟨p, hp, p1, p2, HP⟩ := K.fits
        have t0 := K.t0
        rw [show (((u + 1 : Nat) : Int) - 1) = u by omega]
        have HB := Lib.hid B
        have HK := Lib.hid K
        clear K B
        cases hh : holdsB x y (t + p) with
        | true =>
          have N := Lib.hid (show OpenT x y (t + p) u by rw [HP.out]; exact HK.out.up (by rw [← HP.out]; exact holdsB_iff.1 hh))
          have HH := Lib.hid hh
          clear hh
          go_wp2_with fail
          refine (rholds_any x y (t + p) _ (by omega) x1 (by omega) y1 (by omega) (by omega)).mono ?_
          rw [HH.out]
          rintro e w3 ⟨rfl, hb3⟩
          have B3 := Lib.hid (HB.out.trans (hb3.mono HB.out.size))
          clear hb3
          go_wp2
          go_roundw
          case rel => exact ⟨u, t + p, by omega, by go_num, rfl, N.out, B3.out⟩
          case measure => simp [intOf]
        | false =>
          have N := Lib.hid (show OpenT x y t u from HK.out.down (by rw [← HP.out]; intro k; rw [holdsB_iff.2 k] at hh; cases hh))
          have HH := Lib.hid hh
          clear hh
          go_wp2_with fail
          refine (rholds_any x y (t + p) _ (by omega) x1 (by omega) y1 (by omega) (by omega)).mono ?_
          rw [HH.out]
          rintro e w3 ⟨rfl, hb3⟩
          have B3 := Lib.hid (HB.out.trans (hb3.mono HB.out.size))
          clear hb3
          go_wp2
          go_roundw
          case rel => exact ⟨u, t, by omega, by go_num, rfl, N.out, B3.out⟩
          case measure => simp [intOf]
theorem above_same {x : Int} (h : x ≠ -9223372036854775808) : aboveF x = x := by unfold aboveF; rw [if_neg h]
theorem above_least : aboveF (-9223372036854775808) = -9223372036854775807 := by decide
theorem ne_beq {x y : Int} (h : x ≠ y) : (x == y) = false := by simp; exact h
set_option maxHeartbeats 4000000 in
theorem rTowards_any (x y : Int) (w : World) (x0 : -9223372036854775808 ≤ x) (x1 : x ≤ 9223372036854775807) (y0 : -9223372036854775808 ≤ y) (y1 : y ≤ 9223372036854775807) :
    Calls Try.prog 18 #[.int .i64 x, .int .i64 y] w fun e w' => e = .returned (.int .u32 (towF x y)) ∧ Below w.heap.size w w' := by
  by_cases hx : x = -9223372036854775808
  · subst hx
    by_cases hy : y = -9223372036854775808
    · subst hy
      have E : towF (-9223372036854775808) (-9223372036854775808) = (2147483648 + firstF 9223372036854775807 9223372036854775807) % 4294967296 := by unfold towF; rw [above_least, dir_nn (by omega) (by omega)]; rfl
      have FI := firstF_in (x := 9223372036854775807) (y := 9223372036854775807) (by omega) (by omega)
      obtain ⟨F, hF⟩ : ∃ F, firstF (9223372036854775807) (9223372036854775807) = F := ⟨_, rfl⟩
      rw [hF] at FI E
      have HF := Lib.hid hF
      have HE := Lib.hid (show 2147483648 + F = towF (-9223372036854775808) (-9223372036854775808) by rw [E]; first | done | omega)
      clear hF E
      go_enter Try.func18, Try.ntmps18
      go_wp2_with fail
      refine (rfirst_any (9223372036854775807) (9223372036854775807) _ (by omega) (by omega) (by omega) (by omega)).mono ?_
      rw [HF.out]
      rintro e w1 ⟨rfl, hb1⟩
      have z_w1 := hb1.size
      try simp at z_w1
      have y_w1 : w.heap.size ≤ w1.heap.size := by omega
      go_wp2
      go_ret
      exact ⟨retI HE.out, by repeat (first | exact Below.refl _ _ | assumption | refine Below.setCell ?_ (by first | omega | (simp; done) | (simp; omega)) _ | refine Below.alloc ?_ (by first | omega | (simp; done) | (simp; omega)) _ | refine below_drewN ?_ _ | refine Below.drew ?_ | refine Below.trans ?_ (Below.mono (by assumption) (by first | omega | (simp; done) | (simp; omega))))⟩
    · have ty := ne_beq hy
      by_cases q : 0 ≤ y
      · have E : towF (-9223372036854775808) y = (1073741824 + firstF y 9223372036854775807) % 4294967296 := by unfold towF; rw [above_least, above_same hy, dir_np (by omega) q]; rfl
        have FI := firstF_in (x := y) (y := 9223372036854775807) (by omega) (by omega)
        obtain ⟨F, hF⟩ : ∃ F, firstF (y) (9223372036854775807) = F := ⟨_, rfl⟩
        rw [hF] at FI E
        have HF := Lib.hid hF
        have HE := Lib.hid (show 1073741824 + F = towF (-9223372036854775808) y by rw [E]; first | done | omega)
        clear hF E
        go_enter Try.func18, Try.ntmps18
        go_wp2_with fail
        refine (rfirst_any (y) (9223372036854775807) _ (by omega) (by omega) (by omega) (by omega)).mono ?_
        rw [HF.out]
        rintro e w1 ⟨rfl, hb1⟩
        have z_w1 := hb1.size
        try simp at z_w1
        have y_w1 : w.heap.size ≤ w1.heap.size := by omega
        go_wp2
        go_ret
        exact ⟨retI HE.out, by repeat (first | exact Below.refl _ _ | assumption | refine Below.setCell ?_ (by first | omega | (simp; done) | (simp; omega)) _ | refine Below.alloc ?_ (by first | omega | (simp; done) | (simp; omega)) _ | refine below_drewN ?_ _ | refine Below.drew ?_ | refine Below.trans ?_ (Below.mono (by assumption) (by first | omega | (simp; done) | (simp; omega))))⟩
      · have E : towF (-9223372036854775808) y = (2147483648 + firstF 9223372036854775807 (-y)) % 4294967296 := by unfold towF; rw [above_least, above_same hy, dir_nn (by omega) (by omega)]; rfl
        have FI := firstF_in (x := 9223372036854775807) (y := -y) (by omega) (by omega)
        obtain ⟨F, hF⟩ : ∃ F, firstF (9223372036854775807) (-y) = F := ⟨_, rfl⟩
        rw [hF] at FI E
        have HF := Lib.hid hF
        have HE := Lib.hid (show 2147483648 + F = towF (-9223372036854775808) y by rw [E]; first | done | omega)
        clear hF E
        go_enter Try.func18, Try.ntmps18
        go_wp2_with fail
        refine (rfirst_any (9223372036854775807) (-y) _ (by omega) (by omega) (by omega) (by omega)).mono ?_
        rw [HF.out]
        rintro e w1 ⟨rfl, hb1⟩
        have z_w1 := hb1.size
        try simp at z_w1
        have y_w1 : w.heap.size ≤ w1.heap.size := by omega
        go_wp2
        go_ret
        exact ⟨retI HE.out, by repeat (first | exact Below.refl _ _ | assumption | refine Below.setCell ?_ (by first | omega | (simp; done) | (simp; omega)) _ | refine Below.alloc ?_ (by first | omega | (simp; done) | (simp; omega)) _ | refine below_drewN ?_ _ | refine Below.drew ?_ | refine Below.trans ?_ (Below.mono (by assumption) (by first | omega | (simp; done) | (simp; omega))))⟩
  · have tx := ne_beq hx
    by_cases hy : y = -9223372036854775808
    · subst hy
      by_cases z : x = 0
      · subst z
        have E : towF 0 (-9223372036854775808) = (2147483648 + firstF 0 9223372036854775807) % 4294967296 := by unfold towF; rw [above_least, above_same hx, dir_nn (by omega) (by omega)]; rfl
        have FI := firstF_in (x := 0) (y := 9223372036854775807) (by omega) (by omega)
        obtain ⟨F, hF⟩ : ∃ F, firstF (0) (9223372036854775807) = F := ⟨_, rfl⟩
        rw [hF] at FI E
        have HF := Lib.hid hF
        have HE := Lib.hid (show 2147483648 + F = towF 0 (-9223372036854775808) by rw [E]; first | done | omega)
        clear hF E
        go_enter Try.func18, Try.ntmps18
        go_wp2_with fail
        refine (rfirst_any (0) (9223372036854775807) _ (by omega) (by omega) (by omega) (by omega)).mono ?_
        rw [HF.out]
        rintro e w1 ⟨rfl, hb1⟩
        have z_w1 := hb1.size
        try simp at z_w1
        have y_w1 : w.heap.size ≤ w1.heap.size := by omega
        go_wp2
        go_ret
        exact ⟨retI HE.out, by repeat (first | exact Below.refl _ _ | assumption | refine Below.setCell ?_ (by first | omega | (simp; done) | (simp; omega)) _ | refine Below.alloc ?_ (by first | omega | (simp; done) | (simp; omega)) _ | refine below_drewN ?_ _ | refine Below.drew ?_ | refine Below.trans ?_ (Below.mono (by assumption) (by first | omega | (simp; done) | (simp; omega))))⟩
      · have tz := ne_beq z
        by_cases p : x < 0
        · have E : towF x (-9223372036854775808) = (2147483648 + firstF (-x) 9223372036854775807) % 4294967296 := by unfold towF; rw [above_least, above_same hx, dir_nn (by omega) (by omega)]; rfl
          have FI := firstF_in (x := -x) (y := 9223372036854775807) (by omega) (by omega)
          obtain ⟨F, hF⟩ : ∃ F, firstF (-x) (9223372036854775807) = F := ⟨_, rfl⟩
          rw [hF] at FI E
          have HF := Lib.hid hF
          have HE := Lib.hid (show 2147483648 + F = towF x (-9223372036854775808) by rw [E]; first | done | omega)
          clear hF E
          go_enter Try.func18, Try.ntmps18
          go_wp2_with fail
          refine (rfirst_any (-x) (9223372036854775807) _ (by omega) (by omega) (by omega) (by omega)).mono ?_
          rw [HF.out]
          rintro e w1 ⟨rfl, hb1⟩
          have z_w1 := hb1.size
          try simp at z_w1
          have y_w1 : w.heap.size ≤ w1.heap.size := by omega
          go_wp2
          go_ret
          exact ⟨retI HE.out, by repeat (first | exact Below.refl _ _ | assumption | refine Below.setCell ?_ (by first | omega | (simp; done) | (simp; omega)) _ | refine Below.alloc ?_ (by first | omega | (simp; done) | (simp; omega)) _ | refine below_drewN ?_ _ | refine Below.drew ?_ | refine Below.trans ?_ (Below.mono (by assumption) (by first | omega | (simp; done) | (simp; omega))))⟩
        · have E : towF x (-9223372036854775808) = (3221225472 + firstF 9223372036854775807 x) % 4294967296 := by unfold towF; rw [above_least, above_same hx, dir_pn (by omega) (by omega)]; rfl
          have FI := firstF_in (x := 9223372036854775807) (y := x) (by omega) (by omega)
          obtain ⟨F, hF⟩ : ∃ F, firstF (9223372036854775807) (x) = F := ⟨_, rfl⟩
          rw [hF] at FI E
          have HF := Lib.hid hF
          have HE := Lib.hid (show (3221225472 + F) % 4294967296 = towF x (-9223372036854775808) by rw [E]; first | done | omega)
          clear hF E
          go_enter Try.func18, Try.ntmps18
          go_wp2_with fail
          refine (rfirst_any (9223372036854775807) (x) _ (by omega) (by omega) (by omega) (by omega)).mono ?_
          rw [HF.out]
          rintro e w1 ⟨rfl, hb1⟩
          have z_w1 := hb1.size
          try simp at z_w1
          have y_w1 : w.heap.size ≤ w1.heap.size := by omega
          go_wp2
          go_ret
          exact ⟨retI HE.out, by repeat (first | exact Below.refl _ _ | assumption | refine Below.setCell ?_ (by first | omega | (simp; done) | (simp; omega)) _ | refine Below.alloc ?_ (by first | omega | (simp; done) | (simp; omega)) _ | refine below_drewN ?_ _ | refine Below.drew ?_ | refine Below.trans ?_ (Below.mono (by assumption) (by first | omega | (simp; done) | (simp; omega))))⟩
    · have ty := ne_beq hy
      have E : towF x y = dirF x y % 4294967296 := by unfold towF; rw [above_same hx, above_same hy]
      by_cases z : x = 0
      · subst z
        by_cases z2 : y = 0
        · subst z2
          have HE := Lib.hid (show 0 = towF 0 0 by rw [E]; decide)
          clear E
          go_enter Try.func18, Try.ntmps18
          go_wp2
          go_ret
          exact ⟨retI HE.out, by repeat (first | exact Below.refl _ _ | assumption | refine Below.setCell ?_ (by first | omega | (simp; done) | (simp; omega)) _ | refine Below.alloc ?_ (by first | omega | (simp; done) | (simp; omega)) _ | refine below_drewN ?_ _ | refine Below.drew ?_ | refine Below.trans ?_ (Below.mono (by assumption) (by first | omega | (simp; done) | (simp; omega))))⟩
        · have tz := ne_beq z2
          by_cases q : 0 ≤ y
          · rw [dir_pp (by omega) (by omega) q] at E
            have FI := firstF_in (x := 0) (y := y) (by omega) (by omega)
            obtain ⟨F, hF⟩ : ∃ F, firstF (0) (y) = F := ⟨_, rfl⟩
            rw [hF] at FI E
            have HF := Lib.hid hF
            have HE := Lib.hid (show F = towF 0 y by rw [E]; first | done | omega)
            clear hF E
            go_enter Try.func18, Try.ntmps18
            go_wp2_with fail
            refine (rfirst_any (0) (y) _ (by omega) (by omega) (by omega) (by omega)).mono ?_
            rw [HF.out]
            rintro e w1 ⟨rfl, hb1⟩
            have z_w1 := hb1.size
            try simp at z_w1
            have y_w1 : w.heap.size ≤ w1.heap.size := by omega
            go_wp2
            go_ret
            exact ⟨retI HE.out, by repeat (first | exact Below.refl _ _ | assumption | refine Below.setCell ?_ (by first | omega | (simp; done) | (simp; omega)) _ | refine Below.alloc ?_ (by first | omega | (simp; done) | (simp; omega)) _ | refine below_drewN ?_ _ | refine Below.drew ?_ | refine Below.trans ?_ (Below.mono (by assumption) (by first | omega | (simp; done) | (simp; omega))))⟩
          · rw [dir_nn (by omega) (by omega), Int.neg_zero] at E
            have FI := firstF_in (x := 0) (y := -y) (by omega) (by omega)
            obtain ⟨F, hF⟩ : ∃ F, firstF (0) (-y) = F := ⟨_, rfl⟩
            rw [hF] at FI E
            have HF := Lib.hid hF
            have HE := Lib.hid (show 2147483648 + F = towF 0 y by rw [E]; first | done | omega)
            clear hF E
            go_enter Try.func18, Try.ntmps18
            go_wp2_with fail
            refine (rfirst_any (0) (-y) _ (by omega) (by omega) (by omega) (by omega)).mono ?_
            rw [HF.out]
            rintro e w1 ⟨rfl, hb1⟩
            have z_w1 := hb1.size
            try simp at z_w1
            have y_w1 : w.heap.size ≤ w1.heap.size := by omega
            go_wp2
            go_ret
            exact ⟨retI HE.out, by repeat (first | exact Below.refl _ _ | assumption | refine Below.setCell ?_ (by first | omega | (simp; done) | (simp; omega)) _ | refine Below.alloc ?_ (by first | omega | (simp; done) | (simp; omega)) _ | refine below_drewN ?_ _ | refine Below.drew ?_ | refine Below.trans ?_ (Below.mono (by assumption) (by first | omega | (simp; done) | (simp; omega))))⟩
      · have tz := ne_beq z
        by_cases p : 0 ≤ x
        · by_cases q : 0 ≤ y
          · rw [dir_pp (by omega) p q] at E
            have FI := firstF_in (x := x) (y := y) (by omega) (by omega)
            obtain ⟨F, hF⟩ : ∃ F, firstF (x) (y) = F := ⟨_, rfl⟩
            rw [hF] at FI E
            have HF := Lib.hid hF
            have HE := Lib.hid (show F = towF x y by rw [E]; first | done | omega)
            clear hF E
            go_enter Try.func18, Try.ntmps18
            go_wp2_with fail
            refine (rfirst_any (x) (y) _ (by omega) (by omega) (by omega) (by omega)).mono ?_
            rw [HF.out]
            rintro e w1 ⟨rfl, hb1⟩
            have z_w1 := hb1.size
            try simp at z_w1
            have y_w1 : w.heap.size ≤ w1.heap.size := by omega
            go_wp2
            go_ret
            exact ⟨retI HE.out, by repeat (first | exact Below.refl _ _ | assumption | refine Below.setCell ?_ (by first | omega | (simp; done) | (simp; omega)) _ | refine Below.alloc ?_ (by first | omega | (simp; done) | (simp; omega)) _ | refine below_drewN ?_ _ | refine Below.drew ?_ | refine Below.trans ?_ (Below.mono (by assumption) (by first | omega | (simp; done) | (simp; omega))))⟩
          · rw [dir_pn (by omega) (by omega)] at E
            have FI := firstF_in (x := -y) (y := x) (by omega) (by omega)
            obtain ⟨F, hF⟩ : ∃ F, firstF (-y) (x) = F := ⟨_, rfl⟩
            rw [hF] at FI E
            have HF := Lib.hid hF
            have HE := Lib.hid (show (3221225472 + F) % 4294967296 = towF x y by rw [E]; first | done | omega)
            clear hF E
            go_enter Try.func18, Try.ntmps18
            go_wp2_with fail
            refine (rfirst_any (-y) (x) _ (by omega) (by omega) (by omega) (by omega)).mono ?_
            rw [HF.out]
            rintro e w1 ⟨rfl, hb1⟩
            have z_w1 := hb1.size
            try simp at z_w1
            have y_w1 : w.heap.size ≤ w1.heap.size := by omega
            go_wp2
            go_ret
            exact ⟨retI HE.out, by repeat (first | exact Below.refl _ _ | assumption | refine Below.setCell ?_ (by first | omega | (simp; done) | (simp; omega)) _ | refine Below.alloc ?_ (by first | omega | (simp; done) | (simp; omega)) _ | refine below_drewN ?_ _ | refine Below.drew ?_ | refine Below.trans ?_ (Below.mono (by assumption) (by first | omega | (simp; done) | (simp; omega))))⟩
        · by_cases q : 0 ≤ y
          · rw [dir_np (by omega) q] at E
            have FI := firstF_in (x := y) (y := -x) (by omega) (by omega)
            obtain ⟨F, hF⟩ : ∃ F, firstF (y) (-x) = F := ⟨_, rfl⟩
            rw [hF] at FI E
            have HF := Lib.hid hF
            have HE := Lib.hid (show 1073741824 + F = towF x y by rw [E]; first | done | omega)
            clear hF E
            go_enter Try.func18, Try.ntmps18
            go_wp2_with fail
            refine (rfirst_any (y) (-x) _ (by omega) (by omega) (by omega) (by omega)).mono ?_
            rw [HF.out]
            rintro e w1 ⟨rfl, hb1⟩
            have z_w1 := hb1.size
            try simp at z_w1
            have y_w1 : w.heap.size ≤ w1.heap.size := by omega
            go_wp2
            go_ret
            exact ⟨retI HE.out, by repeat (first | exact Below.refl _ _ | assumption | refine Below.setCell ?_ (by first | omega | (simp; done) | (simp; omega)) _ | refine Below.alloc ?_ (by first | omega | (simp; done) | (simp; omega)) _ | refine below_drewN ?_ _ | refine Below.drew ?_ | refine Below.trans ?_ (Below.mono (by assumption) (by first | omega | (simp; done) | (simp; omega))))⟩
          · rw [dir_nn (by omega) (by omega)] at E
            have FI := firstF_in (x := -x) (y := -y) (by omega) (by omega)
            obtain ⟨F, hF⟩ : ∃ F, firstF (-x) (-y) = F := ⟨_, rfl⟩
            rw [hF] at FI E
            have HF := Lib.hid hF
            have HE := Lib.hid (show 2147483648 + F = towF x y by rw [E]; first | done | omega)
            clear hF E
            go_enter Try.func18, Try.ntmps18
            go_wp2_with fail
            refine (rfirst_any (-x) (-y) _ (by omega) (by omega) (by omega) (by omega)).mono ?_
            rw [HF.out]
            rintro e w1 ⟨rfl, hb1⟩
            have z_w1 := hb1.size
            try simp at z_w1
            have y_w1 : w.heap.size ≤ w1.heap.size := by omega
            go_wp2
            go_ret
            exact ⟨retI HE.out, by repeat (first | exact Below.refl _ _ | assumption | refine Below.setCell ?_ (by first | omega | (simp; done) | (simp; omega)) _ | refine Below.alloc ?_ (by first | omega | (simp; done) | (simp; omega)) _ | refine below_drewN ?_ _ | refine Below.drew ?_ | refine Below.trans ?_ (Below.mono (by assumption) (by first | omega | (simp; done) | (simp; omega))))⟩
end Go.Proofs.Ytjjfeehfgikobaa
