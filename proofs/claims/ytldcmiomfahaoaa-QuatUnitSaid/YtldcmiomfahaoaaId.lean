/- Contracts of the document's trig: by, Table, Sin, Cos. -/
import Derived.Test.YtldcmiomfahaoaaIc
import Derived.Test.YtldcmiomfahaoaaVe
import Derived.Test.YtldcmiomfahaoaaBg
import Derived.Test.YtldcmiomfahaoaaBx
namespace Go.Proofs.Ytldcmiomfahaoaa
open Go.RowKit
set_option linter.unusedVariables false

theorem rby_any (a b : Int) (w : World) (a0 : -9223372036854775808 ≤ a) (a1 : a ≤ 9223372036854775807) (b0 : -9223372036854775808 ≤ b) (b1 : b ≤ 9223372036854775807) :
    Calls Try.prog 97 #[.int .i64 a, .int .i64 b] w fun e w' => e = .returned (.int .i64 (divI (a * b) 1000000000000000000)) ∧ Below w.heap.size w w' := by
  have I := Lib.hid (mul_128 a0 a1 b0 b1)
  go_enter Try.func97, Try.ntmps97
  go_wp2_with fail
  refine (rMul_any a b _ a0 a1 b0 b1).mono ?_
  rintro e w1 ⟨rfl, hb1⟩
  have z_w1 := hb1.size
  try simp at z_w1
  have y_w1 : w.heap.size ≤ w1.heap.size := by omega
  go_wp2_with fail
  refine (rDiv_any (a * b) 1000000000000000000 _ I.out (by omega) (by omega)).mono ?_
  rintro e w2 ⟨rfl, hb2⟩
  have z_w2 := hb2.size
  try simp at z_w2
  have y_w2 : w.heap.size ≤ w2.heap.size := by omega
  go_wp2
  go_ret
  exact ⟨rfl, by repeat (first | exact Below.refl _ _ | assumption | refine Below.setCell ?_ (by first | omega | (simp; done) | (simp; omega)) _ | refine Below.alloc ?_ (by first | omega | (simp; done) | (simp; omega)) _ | refine below_drewN ?_ _ | refine Below.drew ?_ | refine Below.trans ?_ (Below.mono (by assumption) (by first | omega | (simp; done) | (simp; omega))))⟩
theorem tser_succ (x : Int) (j : Nat) : tser x (j + 1) = tstep x (2 * j + 1) (tser x j) := rfl
set_option maxHeartbeats 4000000 in
theorem rTable_any (k : Int) (w : World) (k0 : -9223372036854775808 ≤ k) (k1 : k ≤ 9223372036854775807) :
    Calls Try.prog 76 #[.int .i64 k] w fun e w' => e = .returned (.int .i64 (tabS k)) ∧ Below w.heap.size w w' := by
  by_cases p : k < 0
  · have K := Lib.hid (tab_out (k := k) (by omega))
    go_enter Try.func76, Try.ntmps76
    go_wp2
    go_ret
    exact ⟨retI K.out.symm, by repeat (first | exact Below.refl _ _ | assumption | refine Below.setCell ?_ (by first | omega | (simp; done) | (simp; omega)) _ | refine Below.alloc ?_ (by first | omega | (simp; done) | (simp; omega)) _ | refine below_drewN ?_ _ | refine Below.drew ?_ | refine Below.trans ?_ (Below.mono (by assumption) (by first | omega | (simp; done) | (simp; omega))))⟩
  by_cases p2 : 64 < k
  · have K := Lib.hid (tab_out (k := k) (by omega))
    go_enter Try.func76, Try.ntmps76
    go_wp2
    go_ret
    exact ⟨retI K.out.symm, by repeat (first | exact Below.refl _ _ | assumption | refine Below.setCell ?_ (by first | omega | (simp; done) | (simp; omega)) _ | refine Below.alloc ?_ (by first | omega | (simp; done) | (simp; omega)) _ | refine below_drewN ?_ _ | refine Below.drew ?_ | refine Below.trans ?_ (Below.mono (by assumption) (by first | omega | (simp; done) | (simp; omega))))⟩
  have T := ser_tab k.toNat (by omega)
  have SB := Lib.hid (ser_bounds k.toNat (by omega))
  rw [show (k.toNat : Int) = k by omega] at T SB
  obtain ⟨x, hx⟩ : ∃ x, tarc k = x := ⟨_, rfl⟩
  rw [hx] at T SB
  have x0 := T.2.1
  have x1 := T.2.2
  have HT := Lib.hid T.1
  have HX := Lib.hid (show divI (3141592653589793238 * k) 128 = x from hx)
  have I := Lib.hid (show In128 (3141592653589793238 * k) by unfold In128; omega)
  clear T hx
  go_enter Try.func76, Try.ntmps76
  go_wp2_with fail
  refine (rMul_any 3141592653589793238 k _ (by omega) (by omega) k0 k1).mono ?_
  rintro e w1 ⟨rfl, hb1⟩
  have z_w1 := hb1.size
  try simp at z_w1
  have y_w1 : w.heap.size ≤ w1.heap.size := by omega
  go_wp2_with fail
  refine (rDiv_any (3141592653589793238 * k) 128 _ I.out (by omega) (by omega)).mono ?_
  rw [HX.out]
  rintro e w2 ⟨rfl, hb2⟩
  have z_w2 := hb2.size
  try simp at z_w2
  have y_w2 : w.heap.size ≤ w2.heap.size := by omega
  have B2 : Below w.heap.size w w2 := by repeat (first | exact Below.refl _ _ | assumption | refine Below.setCell ?_ (by first | omega | (simp; done) | (simp; omega)) _ | refine Below.alloc ?_ (by first | omega | (simp; done) | (simp; omega)) _ | refine below_drewN ?_ _ | refine Below.drew ?_ | refine Below.trans ?_ (Below.mono (by assumption) (by first | omega | (simp; done) | (simp; omega))))
  clear hb1 hb2
  go_wp2
  go_loopw [5, 6, 7] (fun su te nn wr => ∃ (j : Nat) (s t n : Int), j ≤ 12 ∧ su = .int .i64 s ∧ te = .int .i64 t ∧ nn = .int .i64 n ∧ n = 2 * j + 1 ∧ s = (tser x j).1 ∧ t = (tser x j).2 ∧ Below w.heap.size w wr) (fun _ _ nn _ => (25 - intOf nn).toNat)
  case atStart => exact ⟨0, 0, x, 1, by omega, rfl, rfl, rfl, by omega, rfl, rfl, B2⟩
  case round =>
    obtain ⟨j, s, t, n, hj, rfl, rfl, rfl, hn, hs, ht, B⟩ := hrel
    have b := SB.out j (by omega)
    rw [← hs, ← ht] at b
    have s0 := b.1.1
    have s1 := b.1.2
    have t0 := b.2.1
    have t1 := b.2.2
    have HB := Lib.hid B
    have HS := Lib.hid hs
    have HTT := Lib.hid ht
    clear b B hs ht
    by_cases c : n < 24
    · obtain ⟨q1, h1⟩ : ∃ q, divI (t * x) 1000000000000000000 = q := ⟨_, rfl⟩
      obtain ⟨q2, h2⟩ : ∃ q, divI (q1 * x) 1000000000000000000 = q := ⟨_, rfl⟩
      have d1 := divI_in (t * x) 1000000000000000000
      have d2 := divI_in (q1 * x) 1000000000000000000
      rw [h1] at d1
      rw [h2] at d2
      unfold In64 at d1 d2
      have D0 : 6 ≤ (n + 1) * (n + 2) := by have := Int.mul_le_mul (show 2 ≤ n + 1 by omega) (show 3 ≤ n + 2 by omega) (by omega) (by omega); omega
      have D1 : (n + 1) * (n + 2) ≤ 625 := by have := Int.mul_le_mul (show n + 1 ≤ 25 by omega) (show n + 2 ≤ 25 by omega) (by omega) (by omega); omega
      have b := SB.out (j + 1) (by omega)
      rw [tser_succ, ← hn] at b
      have EN := Lib.hid (tser_succ x j)
      rw [← hn] at EN
      unfold tstep at b EN
      rw [← HS.out, ← HTT.out, h1, h2] at b EN
      have HN := Lib.hid hn
      have H1 := Lib.hid h1
      have H2 := Lib.hid h2
      obtain ⟨D, hD⟩ : ∃ D, (n + 1) * (n + 2) = D := ⟨_, rfl⟩
      rw [hD] at D0 D1 b EN
      have n0 : 1 ≤ n := by omega
      clear hn h1 h2
      by_cases e : n % 4 = 1
      · rw [if_pos e] at b EN
        have e1 : (n % 4 == 1) = true := by simp; exact e
        have e2 : (n.tmod 4 == 1) = true := by rw [Int.tmod_eq_emod_of_nonneg (by omega)]; exact e1
        have u0 := b.1.1
        have u1 := b.1.2
        have v0 := b.2.1
        have v1 := b.2.2
        simp only at u0 u1 v0 v1
        clear b e
        go_wp2_with fail
        refine (rby_any t x _ (by omega) (by omega) (by omega) (by omega)).mono ?_
        rw [H1.out]
        rintro e w3 ⟨rfl, hb3⟩
        have B3 := Lib.hid (HB.out.trans (hb3.mono HB.out.size))
        clear hb3
        go_wp2_with fail
        refine (rby_any q1 x _ (by omega) (by omega) (by omega) (by omega)).mono ?_
        rw [H2.out]
        rintro e w4 ⟨rfl, hb4⟩
        have B4 := Lib.hid (B3.out.trans (hb4.mono B3.out.size))
        clear hb4 B3
        go_wp2
        go_roundw
        case rel => exact ⟨j + 1, s + t, q2.tdiv D, n + 2, by have := HN.out; omega, rfl, rfl, rfl, by have := HN.out; omega, by rw [EN.out], by rw [EN.out], B4.out⟩
        case measure => simp [intOf]; omega
      · rw [if_neg e] at b EN
        have e1 : (n % 4 == 1) = false := by simp; exact e
        have e2 : (n.tmod 4 == 1) = false := by rw [Int.tmod_eq_emod_of_nonneg (by omega)]; exact e1
        have u0 := b.1.1
        have u1 := b.1.2
        have v0 := b.2.1
        have v1 := b.2.2
        simp only at u0 u1 v0 v1
        clear b e
        go_wp2_with fail
        refine (rby_any t x _ (by omega) (by omega) (by omega) (by omega)).mono ?_
        rw [H1.out]
        rintro e w3 ⟨rfl, hb3⟩
        have B3 := Lib.hid (HB.out.trans (hb3.mono HB.out.size))
        clear hb3
        go_wp2_with fail
        refine (rby_any q1 x _ (by omega) (by omega) (by omega) (by omega)).mono ?_
        rw [H2.out]
        rintro e w4 ⟨rfl, hb4⟩
        have B4 := Lib.hid (B3.out.trans (hb4.mono B3.out.size))
        clear hb4 B3
        go_wp2
        go_roundw
        case rel => exact ⟨j + 1, s - t, q2.tdiv D, n + 2, by have := HN.out; omega, rfl, rfl, rfl, by have := HN.out; omega, by rw [EN.out], by rw [EN.out], B4.out⟩
        case measure => simp [intOf]; omega
    · obtain rfl : j = 12 := by omega
      rw [← HS.out] at HT
      have IS := Lib.hid (mul_128 (a := s) (b := 4294967296) (by omega) (by omega) (by omega) (by omega))
      go_wp2_with fail
      refine (rMul_any s 4294967296 _ (by omega) (by omega) (by omega) (by omega)).mono ?_
      rintro e w3 ⟨rfl, hb3⟩
      have B3 := Lib.hid (HB.out.trans (hb3.mono HB.out.size))
      clear hb3
      go_wp2_with fail
      refine (rDiv_any (s * 4294967296) 1000000000000000000 _ IS.out (by omega) (by omega)).mono ?_
      rw [HT.out]
      rintro e w4 ⟨rfl, hb4⟩
      have B4 := Lib.hid (B3.out.trans (hb4.mono B3.out.size))
      clear hb4 B3
      go_wp2
      go_ret
      exact ⟨rfl, B4.out⟩

theorem tabS_in (k : Int) : 0 ≤ tabS k ∧ tabS k ≤ 4294967296 := by
  by_cases h : k < 0 ∨ 64 < k
  · rw [tab_out h]; omega
  · by_cases e : k = 64
    · subst e; decide
    · have := tab_step (i := k) (by omega) (by omega)
      omega
set_option maxHeartbeats 2000000 in
theorem rSin_any (t : Int) (w : World) (t0 : 0 ≤ t) (t1 : t ≤ 4294967295) :
    Calls Try.prog 51 #[.int .u32 t] w fun e w' => e = .returned (.int .i64 (sinF t)) ∧ Below w.heap.size w w' := by
  obtain ⟨r, hr⟩ : ∃ r, quartF t = r := ⟨_, rfl⟩
  have q := quart_in (t := t) t0
  rw [hr] at q
  obtain ⟨i, hi⟩ : ∃ i, r / 16777216 = i := ⟨_, rfl⟩
  obtain ⟨f, hf⟩ : ∃ f, r % 16777216 = f := ⟨_, rfl⟩
  have a0 := arc_in q.1 q.2
  have E : sinF t = if 2 ≤ t / 1073741824 then -arcF r else arcF r := by unfold sinF; rw [hr]
  have A : arcF r = if i < 64 then tabS i + divI ((tabS (i + 1) - tabS i) * f) 16777216 else tabS i := by
    unfold arcF
    rw [hi, hf]
    by_cases p : i < 64
    · rw [if_pos p, if_pos p, arc_div (by omega) p (by omega) (by omega)]
    · rw [if_neg p, if_neg p]
  have HI := Lib.hid hi
  have HF := Lib.hid hf
  have i0 : 0 ≤ i ∧ i ≤ 64 := by omega
  have f0 : 0 ≤ f ∧ f < 16777216 := by omega
  by_cases o : t / 1073741824 % 2 = 1
  · have o1 : (t / 1073741824 % 2 == 1) = true := by simp; exact o
    have HR := Lib.hid (show 1073741824 - t % 1073741824 = r by rw [← hr]; unfold quartF; rw [if_pos o])
    clear hr hi hf q
    go_enter Try.func51, Try.ntmps51
    go_wp2_with fail
    rw [HR.out]
    rw [HI.out, HF.out]
    refine (rTable_any i _ (by omega) (by omega)).mono ?_
    rintro e w1 ⟨rfl, hb1⟩
    have z_w1 := hb1.size
    try simp at z_w1
    have y_w1 : w.heap.size ≤ w1.heap.size := by omega
    by_cases p : i < 64
    · rw [if_pos p] at A
      have ta := tabS_in i
      have tb := tabS_in (i + 1)
      have u := rq_step (d := tabS (i + 1) - tabS i) (f := f) (by have := (tab_step (i := i) (by omega) p).1; omega) (by omega) (by omega)
      have ad := arc_div (i := i) (f := f) (by omega) p (by omega) (by omega)
      rw [← ad] at u
      obtain ⟨a, ha⟩ : ∃ a, tabS i = a := ⟨_, rfl⟩
      obtain ⟨b, hb⟩ : ∃ b, tabS (i + 1) = b := ⟨_, rfl⟩
      rw [ha, hb] at A u
      rw [ha] at ta ⊢
      rw [hb] at tb
      obtain ⟨d, hd⟩ : ∃ d, divI ((b - a) * f) 16777216 = d := ⟨_, rfl⟩
      rw [hd] at A u
      rw [A] at E a0
      have IM := Lib.hid (mul_128 (a := b - a) (b := f) (by omega) (by omega) (by omega) (by omega))
      have HB := Lib.hid hb
      have HD := Lib.hid hd
      clear A ad ha hb hd
      go_wp2_with fail
      refine (rTable_any (i + 1) _ (by omega) (by omega)).mono ?_
      rw [HB.out]
      rintro e w2 ⟨rfl, hb2⟩
      have z_w2 := hb2.size
      try simp at z_w2
      have y_w2 : w.heap.size ≤ w2.heap.size := by omega
      go_wp2_with fail
      refine (rMul_any (b - a) f _ (by omega) (by omega) (by omega) (by omega)).mono ?_
      rintro e w3 ⟨rfl, hb3⟩
      have z_w3 := hb3.size
      try simp at z_w3
      have y_w3 : w.heap.size ≤ w3.heap.size := by omega
      go_wp2_with fail
      refine (rDiv_any ((b - a) * f) 16777216 _ IM.out (by omega) (by omega)).mono ?_
      rw [HD.out]
      rintro e w4 ⟨rfl, hb4⟩
      have z_w4 := hb4.size
      try simp at z_w4
      have y_w4 : w.heap.size ≤ w4.heap.size := by omega
      by_cases g : 2 ≤ t / 1073741824
      · rw [if_pos g] at E
        have HE := Lib.hid E
        clear E
        go_wp2
        go_ret
        exact ⟨retI HE.out.symm, by repeat (first | exact Below.refl _ _ | assumption | refine Below.setCell ?_ (by first | omega | (simp; done) | (simp; omega)) _ | refine Below.alloc ?_ (by first | omega | (simp; done) | (simp; omega)) _ | refine below_drewN ?_ _ | refine Below.drew ?_ | refine Below.trans ?_ (Below.mono (by assumption) (by first | omega | (simp; done) | (simp; omega))))⟩
      · rw [if_neg g] at E
        have HE := Lib.hid E
        clear E
        go_wp2
        go_ret
        exact ⟨retI HE.out.symm, by repeat (first | exact Below.refl _ _ | assumption | refine Below.setCell ?_ (by first | omega | (simp; done) | (simp; omega)) _ | refine Below.alloc ?_ (by first | omega | (simp; done) | (simp; omega)) _ | refine below_drewN ?_ _ | refine Below.drew ?_ | refine Below.trans ?_ (Below.mono (by assumption) (by first | omega | (simp; done) | (simp; omega))))⟩
    · rw [if_neg p] at A
      rw [A] at E a0
      have ta := tabS_in i
      obtain ⟨a, ha⟩ : ∃ a, tabS i = a := ⟨_, rfl⟩
      rw [ha] at E ta a0 ⊢
      clear A ha
      by_cases g : 2 ≤ t / 1073741824
      · rw [if_pos g] at E
        have HE := Lib.hid E
        clear E
        go_wp2
        go_ret
        exact ⟨retI HE.out.symm, by repeat (first | exact Below.refl _ _ | assumption | refine Below.setCell ?_ (by first | omega | (simp; done) | (simp; omega)) _ | refine Below.alloc ?_ (by first | omega | (simp; done) | (simp; omega)) _ | refine below_drewN ?_ _ | refine Below.drew ?_ | refine Below.trans ?_ (Below.mono (by assumption) (by first | omega | (simp; done) | (simp; omega))))⟩
      · rw [if_neg g] at E
        have HE := Lib.hid E
        clear E
        go_wp2
        go_ret
        exact ⟨retI HE.out.symm, by repeat (first | exact Below.refl _ _ | assumption | refine Below.setCell ?_ (by first | omega | (simp; done) | (simp; omega)) _ | refine Below.alloc ?_ (by first | omega | (simp; done) | (simp; omega)) _ | refine below_drewN ?_ _ | refine Below.drew ?_ | refine Below.trans ?_ (Below.mono (by assumption) (by first | omega | (simp; done) | (simp; omega))))⟩
  · have o1 : (t / 1073741824 % 2 == 1) = false := by simp; exact o
    have HR := Lib.hid (show t % 1073741824 = r by rw [← hr]; unfold quartF; rw [if_neg o])
    clear hr hi hf q
    go_enter Try.func51, Try.ntmps51
    go_wp2_with fail
    rw [HR.out]
    rw [HI.out, HF.out]
    refine (rTable_any i _ (by omega) (by omega)).mono ?_
    rintro e w1 ⟨rfl, hb1⟩
    have z_w1 := hb1.size
    try simp at z_w1
    have y_w1 : w.heap.size ≤ w1.heap.size := by omega
    by_cases p : i < 64
    · rw [if_pos p] at A
      have ta := tabS_in i
      have tb := tabS_in (i + 1)
      have u := rq_step (d := tabS (i + 1) - tabS i) (f := f) (by have := (tab_step (i := i) (by omega) p).1; omega) (by omega) (by omega)
      have ad := arc_div (i := i) (f := f) (by omega) p (by omega) (by omega)
      rw [← ad] at u
      obtain ⟨a, ha⟩ : ∃ a, tabS i = a := ⟨_, rfl⟩
      obtain ⟨b, hb⟩ : ∃ b, tabS (i + 1) = b := ⟨_, rfl⟩
      rw [ha, hb] at A u
      rw [ha] at ta ⊢
      rw [hb] at tb
      obtain ⟨d, hd⟩ : ∃ d, divI ((b - a) * f) 16777216 = d := ⟨_, rfl⟩
      rw [hd] at A u
      rw [A] at E a0
      have IM := Lib.hid (mul_128 (a := b - a) (b := f) (by omega) (by omega) (by omega) (by omega))
      have HB := Lib.hid hb
      have HD := Lib.hid hd
      clear A ad ha hb hd
      go_wp2_with fail
      refine (rTable_any (i + 1) _ (by omega) (by omega)).mono ?_
      rw [HB.out]
      rintro e w2 ⟨rfl, hb2⟩
      have z_w2 := hb2.size
      try simp at z_w2
      have y_w2 : w.heap.size ≤ w2.heap.size := by omega
      go_wp2_with fail
      refine (rMul_any (b - a) f _ (by omega) (by omega) (by omega) (by omega)).mono ?_
      rintro e w3 ⟨rfl, hb3⟩
      have z_w3 := hb3.size
      try simp at z_w3
      have y_w3 : w.heap.size ≤ w3.heap.size := by omega
      go_wp2_with fail
      refine (rDiv_any ((b - a) * f) 16777216 _ IM.out (by omega) (by omega)).mono ?_
      rw [HD.out]
      rintro e w4 ⟨rfl, hb4⟩
      have z_w4 := hb4.size
      try simp at z_w4
      have y_w4 : w.heap.size ≤ w4.heap.size := by omega
      by_cases g : 2 ≤ t / 1073741824
      · rw [if_pos g] at E
        have HE := Lib.hid E
        clear E
        go_wp2
        go_ret
        exact ⟨retI HE.out.symm, by repeat (first | exact Below.refl _ _ | assumption | refine Below.setCell ?_ (by first | omega | (simp; done) | (simp; omega)) _ | refine Below.alloc ?_ (by first | omega | (simp; done) | (simp; omega)) _ | refine below_drewN ?_ _ | refine Below.drew ?_ | refine Below.trans ?_ (Below.mono (by assumption) (by first | omega | (simp; done) | (simp; omega))))⟩
      · rw [if_neg g] at E
        have HE := Lib.hid E
        clear E
        go_wp2
        go_ret
        exact ⟨retI HE.out.symm, by repeat (first | exact Below.refl _ _ | assumption | refine Below.setCell ?_ (by first | omega | (simp; done) | (simp; omega)) _ | refine Below.alloc ?_ (by first | omega | (simp; done) | (simp; omega)) _ | refine below_drewN ?_ _ | refine Below.drew ?_ | refine Below.trans ?_ (Below.mono (by assumption) (by first | omega | (simp; done) | (simp; omega))))⟩
    · rw [if_neg p] at A
      rw [A] at E a0
      have ta := tabS_in i
      obtain ⟨a, ha⟩ : ∃ a, tabS i = a := ⟨_, rfl⟩
      rw [ha] at E ta a0 ⊢
      clear A ha
      by_cases g : 2 ≤ t / 1073741824
      · rw [if_pos g] at E
        have HE := Lib.hid E
        clear E
        go_wp2
        go_ret
        exact ⟨retI HE.out.symm, by repeat (first | exact Below.refl _ _ | assumption | refine Below.setCell ?_ (by first | omega | (simp; done) | (simp; omega)) _ | refine Below.alloc ?_ (by first | omega | (simp; done) | (simp; omega)) _ | refine below_drewN ?_ _ | refine Below.drew ?_ | refine Below.trans ?_ (Below.mono (by assumption) (by first | omega | (simp; done) | (simp; omega))))⟩
      · rw [if_neg g] at E
        have HE := Lib.hid E
        clear E
        go_wp2
        go_ret
        exact ⟨retI HE.out.symm, by repeat (first | exact Below.refl _ _ | assumption | refine Below.setCell ?_ (by first | omega | (simp; done) | (simp; omega)) _ | refine Below.alloc ?_ (by first | omega | (simp; done) | (simp; omega)) _ | refine below_drewN ?_ _ | refine Below.drew ?_ | refine Below.trans ?_ (Below.mono (by assumption) (by first | omega | (simp; done) | (simp; omega))))⟩
theorem rCos_any (t : Int) (w : World) (t0 : 0 ≤ t) (t1 : t ≤ 4294967295) :
    Calls Try.prog 50 #[.int .u32 t] w fun e w' => e = .returned (.int .i64 (cosF t)) ∧ Below w.heap.size w w' := by
  have E := Lib.hid (show sinF ((t + 1073741824) % 4294967296) = cosF t from rfl)
  go_enter Try.func50, Try.ntmps50
  go_wp2_with fail
  refine (rSin_any ((t + 1073741824) % 4294967296) _ (by omega) (by omega)).mono ?_
  rw [E.out]
  rintro e w1 ⟨rfl, hb1⟩
  have z_w1 := hb1.size
  try simp at z_w1
  have y_w1 : w.heap.size ≤ w1.heap.size := by omega
  go_wp2
  go_ret
  exact ⟨rfl, by repeat (first | exact Below.refl _ _ | assumption | refine Below.setCell ?_ (by first | omega | (simp; done) | (simp; omega)) _ | refine Below.alloc ?_ (by first | omega | (simp; done) | (simp; omega)) _ | refine below_drewN ?_ _ | refine Below.drew ?_ | refine Below.trans ?_ (Below.mono (by assumption) (by first | omega | (simp; done) | (simp; omega))))⟩
end Go.Proofs.Ytldcmiomfahaoaa
