/- Contracts of package fx: the product of a nil receiver; Floor, Clamp. -/
import Derived.Test.YtbigjdhehaihoaaGe
namespace Go.Proofs.Ytbigjdhehaihoaa
open Go.RowKit

set_option maxHeartbeats 1000000 in
theorem quotient_nil (n y : Int) (w : World) (hn : In128 n) (y0 : -9223372036854775808 ≤ y) (y1 : y ≤ 9223372036854775807) :
    Calls Try.prog 65 #[.agg #[.int .i64 (hiW n), .int .u64 (loW n)], .int .i64 y, .func (.func 63) #[.pointer none] #[]] w fun e w' => e = .returned (.int .i64 (quoF n y)) ∧ Below w.heap.size w w' := by
  have HN := Lib.hid hn
  have s0 := (cmpI_bd n 0).1
  have s1 := (cmpI_bd n 0).2
  clear hn
  by_cases p : y = 0
  · subst p
    have K := Lib.hid (show satS (cmpI n 0) = quoF n 0 ∧ True from ⟨by unfold quoF; rw [if_pos rfl, satS_cmp], trivial⟩)
    have D := Lib.hid (div_zero n)
    have hmf : ∀ (fn : Fn) (first cap : Array Value) (w : World), (Instr.makeFunc fn first cap).run Try.prog w = .ok (.func fn first cap) w := fun _ _ _ _ => rfl
    go_enter Try.func65, Try.ntmps65
    go_wp2_with fail
    refine (Div_any _ _ n _ _ (isW_of HN.out) y0 y1).mono ?_
    rw [← D.out.1, ← D.out.2]
    clear D
    rintro e w1 ⟨rfl, hb1⟩
    obtain ⟨hc_w1, hf_w1⟩ := bcell hb1
    have z_w1 := hb1.size
    try simp at z_w1
    have z0_w1 : w.heap.size < w1.heap.size := by omega
    have y_w1 : w.heap.size ≤ w1.heap.size := by omega
    go_wp2_with fail
    refine (Sign_n n _ HN.out).mono ?_
    rintro e w2 ⟨rfl, hb2⟩
    obtain ⟨hc_w2, hf_w2⟩ := bcell hb2
    have z_w2 := hb2.size
    try simp at z_w2
    have z0_w2 : w.heap.size < w2.heap.size := by omega
    have y_w2 : w.heap.size ≤ w2.heap.size := by omega
    go_wp2_with fail
    refine (beyond_nil _ _).mono ?_
    rintro e w3 ⟨rfl, rfl⟩
    go_wp2
    go_ret
    exact ⟨retI K.out.1, by repeat (first | exact Below.refl _ _ | assumption | refine Below.setCell ?_ (by first | omega | (simp; done) | (simp; omega)) _ | refine Below.alloc ?_ (by first | omega | (simp; done) | (simp; omega)) _ | refine below_drewN ?_ _ | refine Below.drew ?_ | refine Below.trans ?_ (Below.mono (by assumption) (by first | omega | (simp; done) | (simp; omega))))⟩
  · have D := div_fit (a := n) p
    by_cases q : In64 (rq n y)
    · have D1 := D.1.2 q
      have D2 := D.2 D1
      have K := Lib.hid (show rq n y = quoF n y ∧ quoO n y = false from ⟨by unfold quoF; rw [if_neg p, (clip64_of q).1], by unfold quoO; rw [if_neg p, (clip64_of q).2]⟩)
      have q0 := q.1
      have q1 := q.2
      have hmf : ∀ (fn : Fn) (first cap : Array Value) (w : World), (Instr.makeFunc fn first cap).run Try.prog w = .ok (.func fn first cap) w := fun _ _ _ _ => rfl
      go_enter Try.func65, Try.ntmps65
      go_wp2_with fail
      refine (Div_any _ _ n _ _ (isW_of HN.out) y0 y1).mono ?_
      rw [D1, D2]
      clear D D1 D2
      rintro e w1 ⟨rfl, hb1⟩
      obtain ⟨hc_w1, hf_w1⟩ := bcell hb1
      have z_w1 := hb1.size
      try simp at z_w1
      have z0_w1 : w.heap.size < w1.heap.size := by omega
      have y_w1 : w.heap.size ≤ w1.heap.size := by omega
      go_wp2
      go_ret
      exact ⟨retI K.out.1, by repeat (first | exact Below.refl _ _ | assumption | refine Below.setCell ?_ (by first | omega | (simp; done) | (simp; omega)) _ | refine Below.alloc ?_ (by first | omega | (simp; done) | (simp; omega)) _ | refine below_drewN ?_ _ | refine Below.drew ?_ | refine Below.trans ?_ (Below.mono (by assumption) (by first | omega | (simp; done) | (simp; omega))))⟩
    · have D1 : divB n y = false := by rw [Bool.eq_false_iff]; exact fun c => q (D.1.1 c)
      have D3 := rq_sign (a := n) p q
      have K1 : quoF n y = if y < 0 then satS (-(cmpI n 0)) else satS (cmpI n 0) := by
        unfold quoF; rw [if_neg p, (clip64_out q).1, D3]
      have K2 : quoO n y = true := by unfold quoO; rw [if_neg p, (clip64_out q).2]
      by_cases r : y < 0
      · have K := Lib.hid (show satS (-(cmpI n 0)) = quoF n y ∧ quoO n y = true from ⟨by rw [K1, if_pos r], K2⟩)
        clear D D3 K1 K2
        have hmf : ∀ (fn : Fn) (first cap : Array Value) (w : World), (Instr.makeFunc fn first cap).run Try.prog w = .ok (.func fn first cap) w := fun _ _ _ _ => rfl
        go_enter Try.func65, Try.ntmps65
        go_wp2_with fail
        refine (Div_any _ _ n _ _ (isW_of HN.out) y0 y1).mono ?_
        rw [D1]
        clear D1
        rintro e w1 ⟨rfl, hb1⟩
        obtain ⟨hc_w1, hf_w1⟩ := bcell hb1
        have z_w1 := hb1.size
        try simp at z_w1
        have z0_w1 : w.heap.size < w1.heap.size := by omega
        have y_w1 : w.heap.size ≤ w1.heap.size := by omega
        go_wp2_with fail
        refine (Sign_n n _ HN.out).mono ?_
        rintro e w2 ⟨rfl, hb2⟩
        obtain ⟨hc_w2, hf_w2⟩ := bcell hb2
        have z_w2 := hb2.size
        try simp at z_w2
        have z0_w2 : w.heap.size < w2.heap.size := by omega
        have y_w2 : w.heap.size ≤ w2.heap.size := by omega
        go_wp2_with fail
        refine (beyond_nil _ _).mono ?_
        rintro e w3 ⟨rfl, rfl⟩
        go_wp2
        go_ret
        exact ⟨retI K.out.1, by repeat (first | exact Below.refl _ _ | assumption | refine Below.setCell ?_ (by first | omega | (simp; done) | (simp; omega)) _ | refine Below.alloc ?_ (by first | omega | (simp; done) | (simp; omega)) _ | refine below_drewN ?_ _ | refine Below.drew ?_ | refine Below.trans ?_ (Below.mono (by assumption) (by first | omega | (simp; done) | (simp; omega))))⟩
      · have K := Lib.hid (show satS (cmpI n 0) = quoF n y ∧ quoO n y = true from ⟨by rw [K1, if_neg r], K2⟩)
        clear D D3 K1 K2
        have hmf : ∀ (fn : Fn) (first cap : Array Value) (w : World), (Instr.makeFunc fn first cap).run Try.prog w = .ok (.func fn first cap) w := fun _ _ _ _ => rfl
        go_enter Try.func65, Try.ntmps65
        go_wp2_with fail
        refine (Div_any _ _ n _ _ (isW_of HN.out) y0 y1).mono ?_
        rw [D1]
        clear D1
        rintro e w1 ⟨rfl, hb1⟩
        obtain ⟨hc_w1, hf_w1⟩ := bcell hb1
        have z_w1 := hb1.size
        try simp at z_w1
        have z0_w1 : w.heap.size < w1.heap.size := by omega
        have y_w1 : w.heap.size ≤ w1.heap.size := by omega
        go_wp2_with fail
        refine (Sign_n n _ HN.out).mono ?_
        rintro e w2 ⟨rfl, hb2⟩
        obtain ⟨hc_w2, hf_w2⟩ := bcell hb2
        have z_w2 := hb2.size
        try simp at z_w2
        have z0_w2 : w.heap.size < w2.heap.size := by omega
        have y_w2 : w.heap.size ≤ w2.heap.size := by omega
        go_wp2_with fail
        refine (beyond_nil _ _).mono ?_
        rintro e w3 ⟨rfl, rfl⟩
        go_wp2
        go_ret
        exact ⟨retI K.out.1, by repeat (first | exact Below.refl _ _ | assumption | refine Below.setCell ?_ (by first | omega | (simp; done) | (simp; omega)) _ | refine Below.alloc ?_ (by first | omega | (simp; done) | (simp; omega)) _ | refine below_drewN ?_ _ | refine Below.drew ?_ | refine Below.trans ?_ (Below.mono (by assumption) (by first | omega | (simp; done) | (simp; omega))))⟩
theorem fxMul_nil (x y : Int) (w : World) (x0 : -9223372036854775808 ≤ x) (x1 : x ≤ 9223372036854775807) (y0 : -9223372036854775808 ≤ y) (y1 : y ≤ 9223372036854775807) :
    Calls Try.prog 32 #[.pointer none, .int .i64 x, .int .i64 y] w fun e w' => e = .returned (.int .i64 (mulF x y)) ∧ Below w.heap.size w w' := by
  have I := Lib.hid (mul_128 x0 x1 y0 y1)
  have hmf : ∀ (fn : Fn) (first cap : Array Value) (w : World), (Instr.makeFunc fn first cap).run Try.prog w = .ok (.func fn first cap) w := fun _ _ _ _ => rfl
  go_enter Try.func32, Try.ntmps32
  go_wp2_with fail
  refine (Mul_any x y _ x0 x1 y0 y1).mono ?_
  rintro e w1 ⟨rfl, hb1⟩
  obtain ⟨hc_w1, hf_w1⟩ := bcell hb1
  have z_w1 := hb1.size
  try simp at z_w1
  have y_w1 : w.heap.size ≤ w1.heap.size := by omega
  go_wp2_with fail
  refine (quotient_nil (x * y) 4294967296 _ I.out (by omega) (by omega)).mono ?_
  rintro e w9 ⟨rfl, hb9⟩
  go_wp2
  go_ret
  exact ⟨rfl, hb1.trans (hb9.mono hb1.size)⟩
end Go.Proofs.Ytbigjdhehaihoaa
