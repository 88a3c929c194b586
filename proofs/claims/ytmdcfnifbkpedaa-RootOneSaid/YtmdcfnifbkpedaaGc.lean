/- Contracts of package fx: quotient. -/
import Derived.Test.YtmdcfnifbkpedaaGb
namespace Go.Proofs.Ytmdcfnifbkpedaa
open Go.RowKit

theorem cmpI_bd (a b : Int) : -1 ≤ cmpI a b ∧ cmpI a b ≤ 1 := by
  unfold cmpI; split <;> (try split) <;> omega
set_option maxHeartbeats 1000000 in
theorem quotient_any (n y : Int) (b k : Nat) (o : Bool) (w : World) (hn : In128 n) (y0 : -9223372036854775808 ≤ y) (y1 : y ≤ 9223372036854775807) (m : MAt w b k o) :
    Calls Try.prog 65 #[.agg #[.int .i64 (hiW n), .int .u64 (loW n)], .int .i64 y, .func (.func 66) #[.pointer (some ⟨b, k, none⟩)] #[]] w fun e w' => e = .returned (.int .i64 (quoF n y)) ∧ FxW w.heap.size w b k (o || quoO n y) w' := by
  have HM := Lib.hid m
  have M0 := m.lt
  have HN := Lib.hid hn
  have s0 := (cmpI_bd n 0).1
  have s1 := (cmpI_bd n 0).2
  clear hn m
  by_cases p : y = 0
  · subst p
    have K := Lib.hid (show satS (cmpI n 0) = quoF n 0 ∧ quoO n 0 = true from ⟨by unfold quoF; rw [if_pos rfl, satS_cmp], by unfold quoO; rw [if_pos rfl]⟩)
    have D := Lib.hid (div_zero n)
    have hmf : ∀ (fn : Fn) (first cap : Array Value) (w : World), (Instr.makeFunc fn first cap).run Try.prog w = .ok (.func fn first cap) w := fun _ _ _ _ => rfl
    go_enter Try.func65, Try.ntmps65
    go_wp2_with fail
    refine (Div_any _ _ n _ _ (isW_of HN.out) y0 y1).mono ?_
    rw [← D.out.1, ← D.out.2]
    clear D
    rintro e w1 ⟨rfl, hb1⟩
    obtain ⟨hc_w1, hf_w1⟩ := bcell hb1
    have z_w1 := hb1.size
    try simp at z_w1
    have z0_w1 : w.heap.size < w1.heap.size := by omega
    have y_w1 : w.heap.size ≤ w1.heap.size := by omega
    go_wp2_with fail
    refine (Sign_n n _ HN.out).mono ?_
    rintro e w2 ⟨rfl, hb2⟩
    obtain ⟨hc_w2, hf_w2⟩ := bcell hb2
    have z_w2 := hb2.size
    try simp at z_w2
    have z0_w2 : w.heap.size < w2.heap.size := by omega
    have y_w2 : w.heap.size ≤ w2.heap.size := by omega
    have B2 : Below w.heap.size w w2 := by repeat (first | exact Below.refl _ _ | assumption | refine Below.setCell ?_ (by first | omega | (simp; done) | (simp; omega)) _ | refine Below.alloc ?_ (by first | omega | (simp; done) | (simp; omega)) _ | refine below_drewN ?_ _ | refine Below.drew ?_ | refine Below.trans ?_ (Below.mono (by assumption) (by first | omega | (simp; done) | (simp; omega))))
    have M2 := HM.out.below B2 M0
    have HB2 := Lib.hid B2
    clear B2 hb1 hb2 hc_w1 hf_w1 hc_w2 hf_w2
    go_wp2_with fail
    refine (beyond_any b k o _ _ M2).mono ?_
    rintro e w3 ⟨rfl, rfl⟩
    go_wp2
    go_ret
    exact ⟨retI K.out.1, by rw [K.out.2, Bool.or_true]; exact FxW.put HB2.out⟩
  · have D := div_fit (a := n) p
    by_cases q : In64 (rq n y)
    · have D1 := D.1.2 q
      have D2 := D.2 D1
      have K := Lib.hid (show rq n y = quoF n y ∧ quoO n y = false from ⟨by unfold quoF; rw [if_neg p, (clip64_of q).1], by unfold quoO; rw [if_neg p, (clip64_of q).2]⟩)
      have q0 := q.1
      have q1 := q.2
      have hmf : ∀ (fn : Fn) (first cap : Array Value) (w : World), (Instr.makeFunc fn first cap).run Try.prog w = .ok (.func fn first cap) w := fun _ _ _ _ => rfl
      go_enter Try.func65, Try.ntmps65
      go_wp2_with fail
      refine (Div_any _ _ n _ _ (isW_of HN.out) y0 y1).mono ?_
      rw [D1, D2]
      clear D D1 D2
      rintro e w1 ⟨rfl, hb1⟩
      obtain ⟨hc_w1, hf_w1⟩ := bcell hb1
      have z_w1 := hb1.size
      try simp at z_w1
      have z0_w1 : w.heap.size < w1.heap.size := by omega
      have y_w1 : w.heap.size ≤ w1.heap.size := by omega
      go_wp2
      go_ret
      exact ⟨retI K.out.1, by rw [K.out.2, Bool.or_false]; exact FxW.then (FxW.refl HM.out) (by repeat (first | exact Below.refl _ _ | assumption | refine Below.setCell ?_ (by first | omega | (simp; done) | (simp; omega)) _ | refine Below.alloc ?_ (by first | omega | (simp; done) | (simp; omega)) _ | refine below_drewN ?_ _ | refine Below.drew ?_ | refine Below.trans ?_ (Below.mono (by assumption) (by first | omega | (simp; done) | (simp; omega))))) (Nat.le_refl _)⟩
    · have D1 : divB n y = false := by rw [Bool.eq_false_iff]; exact fun c => q (D.1.1 c)
      have D3 := rq_sign (a := n) p q
      have K1 : quoF n y = if y < 0 then satS (-(cmpI n 0)) else satS (cmpI n 0) := by
        unfold quoF; rw [if_neg p, (clip64_out q).1, D3]
      have K2 : quoO n y = true := by unfold quoO; rw [if_neg p, (clip64_out q).2]
      by_cases r : y < 0
      · have K := Lib.hid (show satS (-(cmpI n 0)) = quoF n y ∧ quoO n y = true from ⟨by rw [K1, if_pos r], K2⟩)
        clear D D3 K1 K2
        have hmf : ∀ (fn : Fn) (first cap : Array Value) (w : World), (Instr.makeFunc fn first cap).run Try.prog w = .ok (.func fn first cap) w := fun _ _ _ _ => rfl
        go_enter Try.func65, Try.ntmps65
        go_wp2_with fail
        refine (Div_any _ _ n _ _ (isW_of HN.out) y0 y1).mono ?_
        rw [D1]
        clear D1
        rintro e w1 ⟨rfl, hb1⟩
        obtain ⟨hc_w1, hf_w1⟩ := bcell hb1
        have z_w1 := hb1.size
        try simp at z_w1
        have z0_w1 : w.heap.size < w1.heap.size := by omega
        have y_w1 : w.heap.size ≤ w1.heap.size := by omega
        go_wp2_with fail
        refine (Sign_n n _ HN.out).mono ?_
        rintro e w2 ⟨rfl, hb2⟩
        obtain ⟨hc_w2, hf_w2⟩ := bcell hb2
        have z_w2 := hb2.size
        try simp at z_w2
        have z0_w2 : w.heap.size < w2.heap.size := by omega
        have y_w2 : w.heap.size ≤ w2.heap.size := by omega
        have B2 : Below w.heap.size w w2 := by repeat (first | exact Below.refl _ _ | assumption | refine Below.setCell ?_ (by first | omega | (simp; done) | (simp; omega)) _ | refine Below.alloc ?_ (by first | omega | (simp; done) | (simp; omega)) _ | refine below_drewN ?_ _ | refine Below.drew ?_ | refine Below.trans ?_ (Below.mono (by assumption) (by first | omega | (simp; done) | (simp; omega))))
        have M2 := HM.out.below B2 M0
        have HB2 := Lib.hid B2
        clear B2 hb1 hb2 hc_w1 hf_w1 hc_w2 hf_w2
        go_wp2_with fail
        refine (beyond_any b k o _ _ M2).mono ?_
        rintro e w3 ⟨rfl, rfl⟩
        go_wp2
        go_ret
        exact ⟨retI K.out.1, by rw [K.out.2, Bool.or_true]; exact FxW.put HB2.out⟩
      · have K := Lib.hid (show satS (cmpI n 0) = quoF n y ∧ quoO n y = true from ⟨by rw [K1, if_neg r], K2⟩)
        clear D D3 K1 K2
        have hmf : ∀ (fn : Fn) (first cap : Array Value) (w : World), (Instr.makeFunc fn first cap).run Try.prog w = .ok (.func fn first cap) w := fun _ _ _ _ => rfl
        go_enter Try.func65, Try.ntmps65
        go_wp2_with fail
        refine (Div_any _ _ n _ _ (isW_of HN.out) y0 y1).mono ?_
        rw [D1]
        clear D1
        rintro e w1 ⟨rfl, hb1⟩
        obtain ⟨hc_w1, hf_w1⟩ := bcell hb1
        have z_w1 := hb1.size
        try simp at z_w1
        have z0_w1 : w.heap.size < w1.heap.size := by omega
        have y_w1 : w.heap.size ≤ w1.heap.size := by omega
        go_wp2_with fail
        refine (Sign_n n _ HN.out).mono ?_
        rintro e w2 ⟨rfl, hb2⟩
        obtain ⟨hc_w2, hf_w2⟩ := bcell hb2
        have z_w2 := hb2.size
        try simp at z_w2
        have z0_w2 : w.heap.size < w2.heap.size := by omega
        have y_w2 : w.heap.size ≤ w2.heap.size := by omega
        have B2 : Below w.heap.size w w2 := by repeat (first | exact Below.refl _ _ | assumption | refine Below.setCell ?_ (by first | omega | (simp; done) | (simp; omega)) _ | refine Below.alloc ?_ (by first | omega | (simp; done) | (simp; omega)) _ | refine below_drewN ?_ _ | refine Below.drew ?_ | refine Below.trans ?_ (Below.mono (by assumption) (by first | omega | (simp; done) | (simp; omega))))
        have M2 := HM.out.below B2 M0
        have HB2 := Lib.hid B2
        clear B2 hb1 hb2 hc_w1 hf_w1 hc_w2 hf_w2
        go_wp2_with fail
        refine (beyond_any b k o _ _ M2).mono ?_
        rintro e w3 ⟨rfl, rfl⟩
        go_wp2
        go_ret
        exact ⟨retI K.out.1, by rw [K.out.2, Bool.or_true]; exact FxW.put HB2.out⟩
end Go.Proofs.Ytmdcfnifbkpedaa
