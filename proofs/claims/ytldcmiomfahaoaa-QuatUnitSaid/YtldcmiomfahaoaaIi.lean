/- Contracts of the program's trig: Table, Sin, Cos. -/
import Derived.Test.YtldcmiomfahaoaaIh
import Derived.Test.YtldcmiomfahaoaaId
namespace Go.Proofs.Ytldcmiomfahaoaa
open Go.RowKit
set_option linter.unusedVariables false
set_option linter.unusedSimpArgs false

theorem pidx (T : Nat → Int) (k : Nat) (h : k < 11) : ∀ w : World, (Instr.index 136 (.agg #[.int .i64 (T 0), .int .i64 (T 1), .int .i64 (T 2), .int .i64 (T 3), .int .i64 (T 4), .int .i64 (T 5), .int .i64 (T 6), .int .i64 (T 7), .int .i64 (T 8), .int .i64 (T 9), .int .i64 (T 10)]) (.int .i64 k)).run Try.prog w = .ok (.int .i64 (T k)) w := fun w =>
  match k, h with
    | 0, _ => by kernel_rfl
    | 1, _ => by kernel_rfl
    | 2, _ => by kernel_rfl
    | 3, _ => by kernel_rfl
    | 4, _ => by kernel_rfl
    | 5, _ => by kernel_rfl
    | 6, _ => by kernel_rfl
    | 7, _ => by kernel_rfl
    | 8, _ => by kernel_rfl
    | 9, _ => by kernel_rfl
    | 10, _ => by kernel_rfl
set_option maxHeartbeats 4000000 in
theorem Table_any (k : Int) (w : World) (k0 : -9223372036854775808 ≤ k) (k1 : k ≤ 9223372036854775807) :
    Calls Try.prog 94 #[.int .i64 k] w fun e w' => e = .returned (.int .i64 (tabS k)) ∧ Below w.heap.size w w' := by
  by_cases p : k < 0
  · have K := Lib.hid (tab_out (k := k) (by omega))
    go_enter Try.func94, Try.ntmps94
    go_wp2
    go_ret
    exact ⟨retI K.out.symm, by repeat (first | exact Below.refl _ _ | assumption | refine Below.setCell ?_ (by first | omega | (simp; done) | (simp; omega)) _ | refine Below.alloc ?_ (by first | omega | (simp; done) | (simp; omega)) _ | refine below_drewN ?_ _ | refine Below.drew ?_ | refine Below.trans ?_ (Below.mono (by assumption) (by first | omega | (simp; done) | (simp; omega))))⟩
  by_cases p2 : 64 < k
  · have K := Lib.hid (tab_out (k := k) (by omega))
    go_enter Try.func94, Try.ntmps94
    go_wp2
    go_ret
    exact ⟨retI K.out.symm, by repeat (first | exact Below.refl _ _ | assumption | refine Below.setCell ?_ (by first | omega | (simp; done) | (simp; omega)) _ | refine Below.alloc ?_ (by first | omega | (simp; done) | (simp; omega)) _ | refine below_drewN ?_ _ | refine Below.drew ?_ | refine Below.trans ?_ (Below.mono (by assumption) (by first | omega | (simp; done) | (simp; omega))))⟩
  have R := pser_tab k.toNat (by omega)
  have PB := pser_bounds k.toNat (by omega)
  rw [show (k.toNat : Int) = k by omega] at R PB
  obtain ⟨x, hx⟩ : ∃ x, parc k = x := ⟨_, rfl⟩
  rw [hx] at R PB
  obtain ⟨q, hq⟩ : ∃ q, psq x = q := ⟨_, rfl⟩
  rw [hq] at R PB
  obtain ⟨T, hT⟩ : ∃ T, pser x q = T := ⟨_, rfl⟩
  rw [hT] at R PB
  have x0 := R.2.1
  have x1 := R.2.2.1
  have q0 := R.2.2.2.1
  have q1 := R.2.2.2.2
  have HT := Lib.hid R.1
  have HX := Lib.hid (show k * 28296951008113761 / 64 = x from hx)
  have HS := Lib.hid (fun (w : World) => series_any x q T w hq hT x0 x1 q0 q1 (fun j hj => (PB j hj).1))
  have HB := Lib.hid (show ∀ j : Nat, j < 12 → (-4611686018427387904 ≤ T j ∧ T j ≤ 4611686018427387904) ∧ (-4611686018427387904 ≤ pssum T j ∧ pssum T j ≤ 4611686018427387904) from PB)
  clear R PB hx hq hT
  go_enter Try.func94, Try.ntmps94
  go_wp2_with fail
  rw [HX.out]
  refine (HS.out _).mono ?_
  rintro e w1 ⟨rfl, hb1⟩
  have z_w1 := hb1.size
  try simp at z_w1
  have y_w1 : w.heap.size ≤ w1.heap.size := by omega
  have B1 : Below w.heap.size w w1 := by repeat (first | exact Below.refl _ _ | assumption | refine Below.setCell ?_ (by first | omega | (simp; done) | (simp; omega)) _ | refine Below.alloc ?_ (by first | omega | (simp; done) | (simp; omega)) _ | refine below_drewN ?_ _ | refine Below.drew ?_ | refine Below.trans ?_ (Below.mono (by assumption) (by first | omega | (simp; done) | (simp; omega))))
  clear hb1
  go_wp2
  go_loopw [3, 18] (fun su i wr => ∃ (j : Nat), j ≤ 11 ∧ su = .int .i64 (pssum T j) ∧ i = .int .i64 j ∧ Below w.heap.size w wr) (fun _ i _ => 11 - (intOf i).toNat)
  case atStart => exact ⟨0, by omega, rfl, rfl, B1⟩
  case round =>
    obtain ⟨j, hj, rfl, rfl, B⟩ := hrel
    have HBB := Lib.hid B
    have b := HB.out j (by omega)
    have s0 := b.2.1
    have s1 := b.2.2
    have t0 := b.1.1
    have t1 := b.1.2
    clear b B B1
    by_cases c : j < 11
    · have X := pidx T j c
      obtain ⟨S, hS⟩ : ∃ S, pssum T j = S := ⟨_, rfl⟩
      obtain ⟨t, ht⟩ : ∃ t, T j = t := ⟨_, rfl⟩
      have ES := Lib.hid (show pssum T (j + 1) = S + t by rw [← hS, ← ht]; rfl)
      have sb := (HB.out (j + 1) (by omega)).2
      rw [ES.out] at sb
      have sb0 := sb.1
      have sb1 := sb.2
      clear sb
      rw [hS] at s0 s1 ⊢
      rw [ht] at t0 t1 X
      clear hS ht
      go_wp2
      go_roundw
      case rel => exact ⟨j + 1, by omega, by rw [ES.out], by go_num, HBB.out⟩
      case measure => simp [intOf]; omega
    · obtain rfl : j = 11 := by omega
      rw [show ((11 : Nat) : Int) = 11 from rfl]
      obtain ⟨S, hS⟩ : ∃ S, pssum T 11 = S := ⟨_, rfl⟩
      have HT2 := Lib.hid (show divI S 4194304 = tabS k by rw [← hS]; exact HT.out)
      rw [hS] at s0 s1 ⊢
      clear hS c
      go_wp2_with fail
      refine (Of_any S _ (by omega) (by omega)).mono ?_
      rintro e w3 ⟨rfl, hb3⟩
      have B3 := Lib.hid (HBB.out.trans (hb3.mono HBB.out.size))
      clear hb3
      go_wp2_with fail
      refine (Div_any _ _ S 4194304 _ (isW_64 (by omega) (by omega)) (by omega) (by omega)).mono ?_
      rw [HT2.out]
      rintro e w4 ⟨rfl, hb4⟩
      have B4 := Lib.hid (B3.out.trans (hb4.mono B3.out.size))
      clear hb4 B3
      go_wp2
      go_ret
      exact ⟨rfl, B4.out⟩
theorem spanFrom_any (i : Int) (w : World) (i0 : 0 ≤ i) (i1 : i ≤ 1000) :
    Calls Try.prog 95 #[.int .i64 i] w fun e w' => e = .returned (.agg #[.int .i64 (tabS i), .int .i64 (tabS (i + 1))]) ∧ Below w.heap.size w w' := by
  go_enter Try.func95, Try.ntmps95
  go_wp2_with fail
  refine (Table_any i _ (by omega) (by omega)).mono ?_
  rintro e w1 ⟨rfl, hb1⟩
  obtain ⟨hc_w1, hf_w1⟩ := bcell hb1
  have z_w1 := hb1.size
  try simp at z_w1
  have z0_w1 : w.heap.size < w1.heap.size := by omega
  have y_w1 : w.heap.size ≤ w1.heap.size := by omega
  go_wp2_with fail
  refine (Table_any (i + 1) _ (by omega) (by omega)).mono ?_
  rintro e w2 ⟨rfl, hb2⟩
  obtain ⟨hc_w2, hf_w2⟩ := bcell hb2
  have z_w2 := hb2.size
  try simp at z_w2
  have z0_w2 : w.heap.size < w2.heap.size := by omega
  have y_w2 : w.heap.size ≤ w2.heap.size := by omega
  have k : Below (w.heap.size + 1) (w.alloc (.cells #[.int .i64 0, .int .i64 0] 124)) w2 := (hb1.mono (by simp)).trans (hb2.mono (by omega))
  have r0 : w2.cell? ⟨w.heap.size, 0, none⟩ = some (.int .i64 0) := (k.cell (p := ⟨w.heap.size, 0, none⟩) (by show w.heap.size < _; omega)).trans (World.cell?_alloc_new w _ _ 0)
  have r1 : w2.cell? ⟨w.heap.size, 1, none⟩ = some (.int .i64 0) := (k.cell (p := ⟨w.heap.size, 1, none⟩) (by show w.heap.size < _; omega)).trans (World.cell?_alloc_new w _ _ 1)
  clear hc_w1 hf_w1 hc_w2 hf_w2
  have f0 : ∀ j, w2.frozen? ⟨w.heap.size, j, none⟩ = false := fun j => (k.frozen (p := ⟨w.heap.size, j, none⟩) (by show w.heap.size < _; omega)).trans (by go_simp)
  have B2 := Lib.hid (show Below w.heap.size w w2 by repeat (first | exact Below.refl _ _ | assumption | refine Below.setCell ?_ (by first | omega | (simp; done) | (simp; omega)) _ | refine Below.alloc ?_ (by first | omega | (simp; done) | (simp; omega)) _ | refine below_drewN ?_ _ | refine Below.drew ?_ | refine Below.trans ?_ (Below.mono (by assumption) (by first | omega | (simp; done) | (simp; omega)))))
  clear k hb1 hb2
  go_wp2
  exact bodyPost_ret (v := .agg #[.int .i64 (tabS i), .int .i64 (tabS (i + 1))]) (by simp [results, Try.results95, go_sem, r0, r1]) rfl ⟨rfl, by have := B2.out; repeat (first | with_reducible refine Below.setCell ?_ (by first | omega | (simp; done) | (simp; omega)) _ | with_reducible refine Below.alloc ?_ (by first | omega | (simp; done) | (simp; omega)) _ | with_reducible refine below_drewN ?_ _ | with_reducible refine Below.drew ?_ | with_reducible exact Below.refl _ _ | with_reducible assumption | with_reducible refine Below.trans ?_ (Below.mono (by assumption) (by first | omega | (simp; done) | (simp; omega))))⟩
/-- a step's sine: between its ends -/
def stepF (a b f : Int) : Int := a + rq ((b - a) * f) 16777216
theorem step_div {a b f : Int} (a0 : 0 ≤ a) (ab : a ≤ b) (b1 : b ≤ 4294967296) (f0 : 0 ≤ f) (f1 : f ≤ 16777216) :
    divI ((b - a) * f) 16777216 = rq ((b - a) * f) 16777216 ∧ 0 ≤ rq ((b - a) * f) 16777216 ∧ rq ((b - a) * f) 16777216 ≤ b - a := by
  have u := rq_step (d := b - a) (f := f) (by omega) f0 f1
  have k := div_fit (a := (b - a) * f) (b := 16777216) (by omega)
  exact ⟨k.2 (k.1.2 ⟨by omega, by omega⟩), u⟩
theorem at_any (a b f : Int) (w : World) (a0 : 0 ≤ a) (ab : a ≤ b) (b1 : b ≤ 4294967296) (f0 : 0 ≤ f) (f1 : f ≤ 16777216) :
    Calls Try.prog 96 #[.agg #[.int .i64 a, .int .i64 b], .int .i64 f] w fun e w' => e = .returned (.int .i64 (stepF a b f)) ∧ Below w.heap.size w w' := by
  have K := step_div a0 ab b1 f0 f1
  have E : stepF a b f = a + rq ((b - a) * f) 16777216 := rfl
  have I := Lib.hid (mul_128 (a := b - a) (b := f) (by omega) (by omega) (by omega) (by omega))
  obtain ⟨d, hd⟩ : ∃ d, rq ((b - a) * f) 16777216 = d := ⟨_, rfl⟩
  rw [hd] at K E
  have D := Lib.hid K.1
  have d0 := K.2.1
  have d1 := K.2.2
  rw [E]
  clear K E hd
  go_enter Try.func96, Try.ntmps96
  go_wp2_with fail
  refine (Mul_any (b - a) f _ (by omega) (by omega) (by omega) (by omega)).mono ?_
  rintro e w1 ⟨rfl, hb1⟩
  obtain ⟨hc_w1, hf_w1⟩ := bcell hb1
  have z_w1 := hb1.size
  try simp at z_w1
  have z0_w1 : w.heap.size < w1.heap.size := by omega
  have y_w1 : w.heap.size ≤ w1.heap.size := by omega
  go_wp2_with fail
  refine (Div_any _ _ ((b - a) * f) 16777216 _ (isW_of I.out) (by omega) (by omega)).mono ?_
  rw [D.out]
  rintro e w2 ⟨rfl, hb2⟩
  obtain ⟨hc_w2, hf_w2⟩ := bcell hb2
  have z_w2 := hb2.size
  try simp at z_w2
  have z0_w2 : w.heap.size < w2.heap.size := by omega
  have y_w2 : w.heap.size ≤ w2.heap.size := by omega
  go_wp2
  go_ret
  exact ⟨rfl, by repeat (first | exact Below.refl _ _ | assumption | refine Below.setCell ?_ (by first | omega | (simp; done) | (simp; omega)) _ | refine Below.alloc ?_ (by first | omega | (simp; done) | (simp; omega)) _ | refine below_drewN ?_ _ | refine Below.drew ?_ | refine Below.trans ?_ (Below.mono (by assumption) (by first | omega | (simp; done) | (simp; omega))))⟩
theorem arc_step {r : Int} (h0 : 0 ≤ r) (h1 : r < 1073741824) : arcF r = stepF (tabS (r / 16777216)) (tabS (r / 16777216 + 1)) (r % 16777216) := by
  unfold arcF stepF
  rw [if_pos (by omega)]
theorem rising_any (r : Int) (w : World) (r0 : 0 ≤ r) (r1 : r ≤ 1073741824) :
    Calls Try.prog 75 #[.int .u32 r] w fun e w' => e = .returned (.int .i64 (arcF r)) ∧ Below w.heap.size w w' := by
  by_cases p : r = 1073741824
  · subst p
    have E := Lib.hid (show tabS 64 = arcF 1073741824 by decide +kernel)
    go_enter Try.func75, Try.ntmps75
    go_wp2_with fail
    refine (Table_any 64 _ (by omega) (by omega)).mono ?_
    rw [E.out]
    rintro e w1 ⟨rfl, hb1⟩
    have z_w1 := hb1.size
    try simp at z_w1
    have y_w1 : w.heap.size ≤ w1.heap.size := by omega
    go_wp2
    go_ret
    exact ⟨rfl, by repeat (first | exact Below.refl _ _ | assumption | refine Below.setCell ?_ (by first | omega | (simp; done) | (simp; omega)) _ | refine Below.alloc ?_ (by first | omega | (simp; done) | (simp; omega)) _ | refine below_drewN ?_ _ | refine Below.drew ?_ | refine Below.trans ?_ (Below.mono (by assumption) (by first | omega | (simp; done) | (simp; omega))))⟩
  · have E := Lib.hid (arc_step r0 (by omega))
    have T := Lib.hid (tab_step (i := r / 16777216) (by omega) (by omega))
    have tp : (r == 1073741824) = false := by simp; exact p
    go_enter Try.func75, Try.ntmps75
    go_wp2_with fail
    refine (spanFrom_any (r / 16777216) _ (by omega) (by omega)).mono ?_
    rintro e w1 ⟨rfl, hb1⟩
    have z_w1 := hb1.size
    try simp at z_w1
    have y_w1 : w.heap.size ≤ w1.heap.size := by omega
    go_wp2_with fail
    refine (at_any (tabS (r / 16777216)) (tabS (r / 16777216 + 1)) (r % 16777216) _ T.out.2.1 T.out.1 T.out.2.2 (by omega) (by omega)).mono ?_
    rw [← E.out]
    rintro e w2 ⟨rfl, hb2⟩
    have z_w2 := hb2.size
    try simp at z_w2
    have y_w2 : w.heap.size ≤ w2.heap.size := by omega
    go_wp2
    go_ret
    exact ⟨rfl, by repeat (first | exact Below.refl _ _ | assumption | refine Below.setCell ?_ (by first | omega | (simp; done) | (simp; omega)) _ | refine Below.alloc ?_ (by first | omega | (simp; done) | (simp; omega)) _ | refine below_drewN ?_ _ | refine Below.drew ?_ | refine Below.trans ?_ (Below.mono (by assumption) (by first | omega | (simp; done) | (simp; omega))))⟩
theorem nat_and_pow (A k : Nat) : A &&& 2 ^ k = if A.testBit k = true then 2 ^ k else 0 := by
  apply Nat.eq_of_testBit_eq
  intro i
  rw [Nat.testBit_and, Nat.testBit_two_pow]
  by_cases e : k = i
  · subst e
    cases h : A.testBit k with
    | true => rw [if_pos rfl, Nat.testBit_two_pow]; simp
    | false => rw [if_neg (by simp)]; simp
  · split
    · rw [Nat.testBit_two_pow]; simp [e]
    · simp [e]
theorem and_quart (t : Int) (t0 : 0 ≤ t) (t1 : t ≤ 4294967295) : bits .and .u32 t 1073741824 = t / 1073741824 % 2 * 1073741824 := by
  obtain ⟨A, rfl⟩ := Int.eq_ofNat_of_zero_le t0
  have hx := nat_and_pow A 30
  have h1 : (BitVec.ofInt 32 (A : Int)).toNat = A := by
    rw [BitVec.ofInt_natCast, BitVec.toNat_ofNat]; exact Nat.mod_eq_of_lt (by omega)
  have h2 : (BitVec.ofInt 32 (1073741824 : Int)).toNat = 2 ^ 30 := by decide
  show IntKind.u32.wrap ((BitVec.ofInt 32 (A : Int) &&& BitVec.ofInt 32 (1073741824 : Int)).toNat : Int) = _
  rw [BitVec.toNat_and, h1, h2, hx, Nat.testBit_eq_decide_div_mod_eq, IntKind.wrap_u32]
  by_cases c : A / 2 ^ 30 % 2 = 1
  · rw [decide_eq_true c, if_pos rfl]; simp at c ⊢; omega
  · rw [decide_eq_false c, if_neg (by simp)]; simp at c ⊢; omega
theorem Sin_any (t : Int) (w : World) (t0 : 0 ≤ t) (t1 : t ≤ 4294967295) :
    Calls Try.prog 49 #[.int .u32 t] w fun e w' => e = .returned (.int .i64 (sinF t)) ∧ Below w.heap.size w w' := by
  have q := quart_in (t := t) t0
  have ai := arc_in q.1 q.2
  have hand := and_quart t t0 t1
  obtain ⟨a, ha⟩ : ∃ a, arcF (quartF t) = a := ⟨_, rfl⟩
  rw [ha] at ai
  have E : sinF t = if 2 ≤ t / 1073741824 then -a else a := by unfold sinF; rw [ha]
  have a1 := ai.2.1
  have a0 := ai.2.2.1
  clear ai q
  by_cases o : t / 1073741824 % 2 = 1
  · have HR := Lib.hid (show arcF (1073741824 - t % 1073741824) = a by rw [← ha]; unfold quartF; rw [if_pos o])
    rw [o, Int.one_mul] at hand
    clear ha o
    by_cases g : 2147483648 ≤ t
    · rw [if_pos (by omega)] at E
      have HE := Lib.hid E
      clear E
      go_enter Try.func49, Try.ntmps49
      go_wp2_with fail
      refine (rising_any (1073741824 - t % 1073741824) _ (by omega) (by omega)).mono ?_
      rw [HR.out]
      rintro e w1 ⟨rfl, hb1⟩
      have z_w1 := hb1.size
      try simp at z_w1
      have y_w1 : w.heap.size ≤ w1.heap.size := by omega
      go_wp2
      go_ret
      exact ⟨retI HE.out.symm, by repeat (first | exact Below.refl _ _ | assumption | refine Below.setCell ?_ (by first | omega | (simp; done) | (simp; omega)) _ | refine Below.alloc ?_ (by first | omega | (simp; done) | (simp; omega)) _ | refine below_drewN ?_ _ | refine Below.drew ?_ | refine Below.trans ?_ (Below.mono (by assumption) (by first | omega | (simp; done) | (simp; omega))))⟩
    · rw [if_neg (by omega)] at E
      have HE := Lib.hid E
      clear E
      go_enter Try.func49, Try.ntmps49
      go_wp2_with fail
      refine (rising_any (1073741824 - t % 1073741824) _ (by omega) (by omega)).mono ?_
      rw [HR.out]
      rintro e w1 ⟨rfl, hb1⟩
      have z_w1 := hb1.size
      try simp at z_w1
      have y_w1 : w.heap.size ≤ w1.heap.size := by omega
      go_wp2
      go_ret
      exact ⟨retI HE.out.symm, by repeat (first | exact Below.refl _ _ | assumption | refine Below.setCell ?_ (by first | omega | (simp; done) | (simp; omega)) _ | refine Below.alloc ?_ (by first | omega | (simp; done) | (simp; omega)) _ | refine below_drewN ?_ _ | refine Below.drew ?_ | refine Below.trans ?_ (Below.mono (by assumption) (by first | omega | (simp; done) | (simp; omega))))⟩
  · have HR := Lib.hid (show arcF (t % 1073741824) = a by rw [← ha]; unfold quartF; rw [if_neg o])
    rw [show t / 1073741824 % 2 = 0 by omega, Int.zero_mul] at hand
    clear ha o
    by_cases g : 2147483648 ≤ t
    · rw [if_pos (by omega)] at E
      have HE := Lib.hid E
      clear E
      go_enter Try.func49, Try.ntmps49
      go_wp2_with fail
      refine (rising_any (t % 1073741824) _ (by omega) (by omega)).mono ?_
      rw [HR.out]
      rintro e w1 ⟨rfl, hb1⟩
      have z_w1 := hb1.size
      try simp at z_w1
      have y_w1 : w.heap.size ≤ w1.heap.size := by omega
      go_wp2
      go_ret
      exact ⟨retI HE.out.symm, by repeat (first | exact Below.refl _ _ | assumption | refine Below.setCell ?_ (by first | omega | (simp; done) | (simp; omega)) _ | refine Below.alloc ?_ (by first | omega | (simp; done) | (simp; omega)) _ | refine below_drewN ?_ _ | refine Below.drew ?_ | refine Below.trans ?_ (Below.mono (by assumption) (by first | omega | (simp; done) | (simp; omega))))⟩
    · rw [if_neg (by omega)] at E
      have HE := Lib.hid E
      clear E
      go_enter Try.func49, Try.ntmps49
      go_wp2_with fail
      refine (rising_any (t % 1073741824) _ (by omega) (by omega)).mono ?_
      rw [HR.out]
      rintro e w1 ⟨rfl, hb1⟩
      have z_w1 := hb1.size
      try simp at z_w1
      have y_w1 : w.heap.size ≤ w1.heap.size := by omega
      go_wp2
      go_ret
      exact ⟨retI HE.out.symm, by repeat (first | exact Below.refl _ _ | assumption | refine Below.setCell ?_ (by first | omega | (simp; done) | (simp; omega)) _ | refine Below.alloc ?_ (by first | omega | (simp; done) | (simp; omega)) _ | refine below_drewN ?_ _ | refine Below.drew ?_ | refine Below.trans ?_ (Below.mono (by assumption) (by first | omega | (simp; done) | (simp; omega))))⟩
theorem Cos_any (t : Int) (w : World) (t0 : 0 ≤ t) (t1 : t ≤ 4294967295) :
    Calls Try.prog 48 #[.int .u32 t] w fun e w' => e = .returned (.int .i64 (cosF t)) ∧ Below w.heap.size w w' := by
  have E := Lib.hid (show sinF ((t + 1073741824) % 4294967296) = cosF t from rfl)
  go_enter Try.func48, Try.ntmps48
  go_wp2_with fail
  refine (Sin_any ((t + 1073741824) % 4294967296) _ (by omega) (by omega)).mono ?_
  rw [E.out]
  rintro e w1 ⟨rfl, hb1⟩
  have z_w1 := hb1.size
  try simp at z_w1
  have y_w1 : w.heap.size ≤ w1.heap.size := by omega
  go_wp2
  go_ret
  exact ⟨rfl, by repeat (first | exact Below.refl _ _ | assumption | refine Below.setCell ?_ (by first | omega | (simp; done) | (simp; omega)) _ | refine Below.alloc ?_ (by first | omega | (simp; done) | (simp; omega)) _ | refine below_drewN ?_ _ | refine Below.drew ?_ | refine Below.trans ?_ (Below.mono (by assumption) (by first | omega | (simp; done) | (simp; omega))))⟩
end Go.Proofs.Ytldcmiomfahaoaa
