/- Contracts of the document's answers: of, Sign, Cmp. -/
import Derived.Test.YtllkhgcokbpggaaBf
import Derived.Test.YtllkhgcokbpggaaBv
import Derived.Test.YtllkhgcokbpggaaBn
namespace Go.Proofs.Ytllkhgcokbpggaa
open Go.RowKit

theorem rSign_any (n : Int) (w : World) (h : In128 n) :
    Calls Try.prog 50 #[.agg #[.bool (decide (n < 0)), .int .u64 (d0 (n.natAbs)), .int .u64 (d1 (n.natAbs)), .int .u64 (d2 (n.natAbs)), .int .u64 (d3 (n.natAbs))]] w fun e w' => e = .returned (.int .i64 (cmpI n 0)) ∧ Below w.heap.size w w' := by
  have A := abs128 h
  by_cases p : n = 0
  · have z : decide ((n.natAbs : Int) = 0) = true := by rw [decide_eq_true_iff]; omega
    have K := Lib.hid (show 0 = cmpI n 0 by unfold cmpI; rw [if_pos p])
    clear p
    go_enter Try.func50, Try.ntmps50
    go_wp2_with fail
    refine (Zero_any _ _ _ A.1 A.2).mono ?_
    rw [z]
    rintro e w1 ⟨rfl, hb1⟩
    obtain ⟨hc_w1, hf_w1⟩ := bcell hb1
    have z_w1 := hb1.size
    try simp at z_w1
    have z0_w1 : w.heap.size < w1.heap.size := by omega
    have y_w1 : w.heap.size ≤ w1.heap.size := by omega
    go_wp2
    go_ret
    exact ⟨retI K.out, by repeat (first | exact Below.refl _ _ | assumption | refine Below.setCell ?_ (by first | omega | (simp; done) | (simp; omega)) _ | refine Below.alloc ?_ (by first | omega | (simp; done) | (simp; omega)) _ | refine below_drewN ?_ _ | refine Below.drew ?_ | refine Below.trans ?_ (Below.mono (by assumption) (by first | omega | (simp; done) | (simp; omega))))⟩
  · have z : decide ((n.natAbs : Int) = 0) = false := by rw [decide_eq_false_iff_not]; omega
    by_cases q : n < 0
    · have K := Lib.hid (show -1 = cmpI n 0 by unfold cmpI; rw [if_neg p, if_pos q])
      clear p
      go_enter Try.func50, Try.ntmps50
      go_wp2_with fail
      refine (Zero_any _ _ _ A.1 A.2).mono ?_
      rw [z]
      rintro e w1 ⟨rfl, hb1⟩
      obtain ⟨hc_w1, hf_w1⟩ := bcell hb1
      have z_w1 := hb1.size
      try simp at z_w1
      have z0_w1 : w.heap.size < w1.heap.size := by omega
      have y_w1 : w.heap.size ≤ w1.heap.size := by omega
      go_wp2
      go_ret
      exact ⟨retI K.out, by repeat (first | exact Below.refl _ _ | assumption | refine Below.setCell ?_ (by first | omega | (simp; done) | (simp; omega)) _ | refine Below.alloc ?_ (by first | omega | (simp; done) | (simp; omega)) _ | refine below_drewN ?_ _ | refine Below.drew ?_ | refine Below.trans ?_ (Below.mono (by assumption) (by first | omega | (simp; done) | (simp; omega))))⟩
    · have K := Lib.hid (show 1 = cmpI n 0 by unfold cmpI; rw [if_neg p, if_neg q])
      clear p
      go_enter Try.func50, Try.ntmps50
      go_wp2_with fail
      refine (Zero_any _ _ _ A.1 A.2).mono ?_
      rw [z]
      rintro e w1 ⟨rfl, hb1⟩
      obtain ⟨hc_w1, hf_w1⟩ := bcell hb1
      have z_w1 := hb1.size
      try simp at z_w1
      have z0_w1 : w.heap.size < w1.heap.size := by omega
      have y_w1 : w.heap.size ≤ w1.heap.size := by omega
      go_wp2
      go_ret
      exact ⟨retI K.out, by repeat (first | exact Below.refl _ _ | assumption | refine Below.setCell ?_ (by first | omega | (simp; done) | (simp; omega)) _ | refine Below.alloc ?_ (by first | omega | (simp; done) | (simp; omega)) _ | refine below_drewN ?_ _ | refine Below.drew ?_ | refine Below.trans ?_ (Below.mono (by assumption) (by first | omega | (simp; done) | (simp; omega))))⟩
end Go.Proofs.Ytllkhgcokbpggaa
namespace Go.Proofs.Ytllkhgcokbpggaa
open Go.RowKit

theorem eq_digits (a0 a1 a2 a3 b0 b1 b2 b3 : Int) (w : World) :
    (Op.equalIn 10000 88 (.agg #[.int .u64 a0, .int .u64 a1, .int .u64 a2, .int .u64 a3]) (.agg #[.int .u64 b0, .int .u64 b1, .int .u64 b2, .int .u64 b3])).run Try.prog w = .ok (a0 == b0 && a1 == b1 && a2 == b2 && a3 == b3) w := by
  have u3 := Try.underlying81
  have a3' := Try.isAgg81
  have z3 := Try.sizeOf81
  rw [show (10000 : Nat) = 9999 + 1 from rfl, Op.equalIn]
  simp only [Sem.run_bind, run_underlying Try.underlying88, Result.andThen_ok]
  simp only [Std.Legacy.Range.forIn_eq_forIn_range', Std.Legacy.Range.size, Nat.sub_zero, Nat.add_sub_cancel, Nat.div_one, List.range'_succ, List.range'_zero, List.forIn_cons, List.forIn_nil]
  go_simp
  by_cases h0 : a0 = b0 <;> by_cases h1 : a1 = b1 <;> by_cases h2 : a2 = b2 <;> by_cases h3 : a3 = b3 <;> simp [h0, h1, h2, h3]
theorem digits_ne {m k : Int} (m0 : 0 ≤ m) (m1 : m < 340282366920938463463374607431768211456) (k0 : 0 ≤ k) (k1 : k < 340282366920938463463374607431768211456) (h : m ≠ k) : (d0 m == d0 k && d1 m == d1 k && d2 m == d2 k && d3 m == d3 k) = false := by
  rw [Bool.eq_false_iff]
  intro c
  simp at c
  unfold d0 d1 d2 d3 at c
  omega
theorem same_gt {a b : Int} (s : cmpI a 0 = cmpI b 0) (e : ¬ a.natAbs = b.natAbs) (n : (decide ((a.natAbs : Int) < b.natAbs) == decide (a < 0)) = true) : 1 = cmpI a b := by
  have hs : (a = 0 ↔ b = 0) ∧ (a < 0 ↔ b < 0) := by
    unfold cmpI at s; split at s <;> split at s <;> (try split at s) <;> (try split at s) <;> omega
  by_cases p : a < 0 <;> by_cases q : (a.natAbs : Int) < b.natAbs <;> simp [p, q] at n <;> unfold cmpI <;> rw [if_neg (by omega), if_neg (by omega)]
theorem same_lt {a b : Int} (s : cmpI a 0 = cmpI b 0) (e : ¬ a.natAbs = b.natAbs) (n : (decide ((a.natAbs : Int) < b.natAbs) == decide (a < 0)) = false) : -1 = cmpI a b := by
  have hs : (a = 0 ↔ b = 0) ∧ (a < 0 ↔ b < 0) := by
    unfold cmpI at s; split at s <;> split at s <;> (try split at s) <;> (try split at s) <;> omega
  by_cases p : a < 0 <;> by_cases q : (a.natAbs : Int) < b.natAbs <;> simp [p, q] at n <;> unfold cmpI <;> rw [if_neg (by omega), if_pos (by omega)]
set_option maxHeartbeats 4000000 in
theorem rCmp_any (a b : Int) (w : World) (ha : In128 a) (hb : In128 b) :
    Calls Try.prog 66 #[.agg #[.bool (decide (a < 0)), .int .u64 (d0 (a.natAbs)), .int .u64 (d1 (a.natAbs)), .int .u64 (d2 (a.natAbs)), .int .u64 (d3 (a.natAbs))], .agg #[.bool (decide (b < 0)), .int .u64 (d0 (b.natAbs)), .int .u64 (d1 (b.natAbs)), .int .u64 (d2 (b.natAbs)), .int .u64 (d3 (b.natAbs))]] w fun e w' => e = .returned (.int .i64 (cmpI a b)) ∧ Below w.heap.size w w' := by
  have A := abs128 ha
  have B := abs128 hb
  by_cases s : cmpI a 0 = cmpI b 0
  · have t : (cmpI a 0 != cmpI b 0) = false := by simp [s]
    by_cases e : a.natAbs = b.natAbs
    · have ab : a = b := by unfold cmpI at s; split at s <;> split at s <;> (try split at s) <;> (try split at s) <;> omega
      subst ab
      have K := Lib.hid (show 0 = cmpI a a by unfold cmpI; rw [if_pos rfl])
      clear s e
      have hE := fun w => eq_digits (d0 a.natAbs) (d1 a.natAbs) (d2 a.natAbs) (d3 a.natAbs) (d0 a.natAbs) (d1 a.natAbs) (d2 a.natAbs) (d3 a.natAbs) w
      go_enter Try.func66, Try.ntmps66
      go_wp2_with fail
      have HS := Lib.hid (startN (B := w.heap.size) (w := w) ((CellN.new w (decide (a < 0)) a.natAbs 90).alloc (by simp) (.cells #[.bool (decide (a < 0)), .int .u64 (d0 a.natAbs), .int .u64 (d1 a.natAbs), .int .u64 (d2 a.natAbs), .int .u64 (d3 a.natAbs)] 90))
        (by have := CellN.new (w.alloc (.cells #[.bool (decide (a < 0)), .int .u64 (d0 a.natAbs), .int .u64 (d1 a.natAbs), .int .u64 (d2 a.natAbs), .int .u64 (d3 a.natAbs)] 90)) (decide (a < 0)) a.natAbs 90; simpa using this) (by simp; omega) (by simp) (by simp; omega) (by repeat (first | exact Below.refl _ _ | assumption | refine Below.setCell ?_ (by first | omega | (simp; done) | (simp; omega)) _ | refine Below.alloc ?_ (by first | omega | (simp; done) | (simp; omega)) _ | refine below_drewN ?_ _ | refine Below.drew ?_ | refine Below.trans ?_ (Below.mono (by assumption) (by first | omega | (simp; done) | (simp; omega))))))
      go_region_held3 (fun W => (W.cell? ⟨w.heap.size, 0, none⟩ = some (.bool (decide (a < 0))) ∧ W.cell? ⟨w.heap.size, 1, none⟩ = some (.int .u64 (d0 (a.natAbs))) ∧ W.cell? ⟨w.heap.size, 2, none⟩ = some (.int .u64 (d1 (a.natAbs))) ∧ W.cell? ⟨w.heap.size, 3, none⟩ = some (.int .u64 (d2 (a.natAbs))) ∧ W.cell? ⟨w.heap.size, 4, none⟩ = some (.int .u64 (d3 (a.natAbs)))) ∧ (W.cell? ⟨w.heap.size + 1, 0, none⟩ = some (.bool (decide (a < 0))) ∧ W.cell? ⟨w.heap.size + 1, 1, none⟩ = some (.int .u64 (d0 (a.natAbs))) ∧ W.cell? ⟨w.heap.size + 1, 2, none⟩ = some (.int .u64 (d1 (a.natAbs))) ∧ W.cell? ⟨w.heap.size + 1, 3, none⟩ = some (.int .u64 (d2 (a.natAbs))) ∧ W.cell? ⟨w.heap.size + 1, 4, none⟩ = some (.int .u64 (d3 (a.natAbs)))) ∧ w.heap.size < W.heap.size ∧ w.heap.size + 1 < W.heap.size ∧ w.heap.size ≤ W.heap.size ∧ Below w.heap.size w W)
        (first | exact keepN ((Below.refl _ _).drew) HS.out | exact keepN ((Below.refl _ _).drew) (by assumption) | exact keepN hb (by assumption))
        (first
          | (go_at_call 50; refine (rSign_any _ _ (by assumption)).mono ?_; rintro e w' ⟨rfl, hb⟩)
          | (go_at_call 85; refine (less_any _ _ _ A.1 A.2 B.1 B.2).mono ?_; rintro e w' ⟨rfl, hb⟩))
      go_wp2
      go_ret
      exact ⟨retI K.out, endN (by assumption)⟩
    · have hE := fun w => eq_digits (d0 a.natAbs) (d1 a.natAbs) (d2 a.natAbs) (d3 a.natAbs) (d0 b.natAbs) (d1 b.natAbs) (d2 b.natAbs) (d3 b.natAbs) w
      rw [digits_ne A.1 A.2 B.1 B.2 (by omega)] at hE
      by_cases n : (decide ((a.natAbs : Int) < b.natAbs) == decide (a < 0)) = true
      · have K := Lib.hid (same_gt s e n)
        have n2 : (a.natAbs : Int) < b.natAbs ↔ a < 0 := by simpa using n
        clear s e n
        go_enter Try.func66, Try.ntmps66
        go_wp2_with fail
        have HS := Lib.hid (startN (B := w.heap.size) (w := w) ((CellN.new w (decide (a < 0)) a.natAbs 90).alloc (by simp) (.cells #[.bool (decide (b < 0)), .int .u64 (d0 b.natAbs), .int .u64 (d1 b.natAbs), .int .u64 (d2 b.natAbs), .int .u64 (d3 b.natAbs)] 90))
          (by have := CellN.new (w.alloc (.cells #[.bool (decide (a < 0)), .int .u64 (d0 a.natAbs), .int .u64 (d1 a.natAbs), .int .u64 (d2 a.natAbs), .int .u64 (d3 a.natAbs)] 90)) (decide (b < 0)) b.natAbs 90; simpa using this) (by simp; omega) (by simp) (by simp; omega) (by repeat (first | exact Below.refl _ _ | assumption | refine Below.setCell ?_ (by first | omega | (simp; done) | (simp; omega)) _ | refine Below.alloc ?_ (by first | omega | (simp; done) | (simp; omega)) _ | refine below_drewN ?_ _ | refine Below.drew ?_ | refine Below.trans ?_ (Below.mono (by assumption) (by first | omega | (simp; done) | (simp; omega))))))
        go_region_held3 (fun W => (W.cell? ⟨w.heap.size, 0, none⟩ = some (.bool (decide (a < 0))) ∧ W.cell? ⟨w.heap.size, 1, none⟩ = some (.int .u64 (d0 (a.natAbs))) ∧ W.cell? ⟨w.heap.size, 2, none⟩ = some (.int .u64 (d1 (a.natAbs))) ∧ W.cell? ⟨w.heap.size, 3, none⟩ = some (.int .u64 (d2 (a.natAbs))) ∧ W.cell? ⟨w.heap.size, 4, none⟩ = some (.int .u64 (d3 (a.natAbs)))) ∧ (W.cell? ⟨w.heap.size + 1, 0, none⟩ = some (.bool (decide (b < 0))) ∧ W.cell? ⟨w.heap.size + 1, 1, none⟩ = some (.int .u64 (d0 (b.natAbs))) ∧ W.cell? ⟨w.heap.size + 1, 2, none⟩ = some (.int .u64 (d1 (b.natAbs))) ∧ W.cell? ⟨w.heap.size + 1, 3, none⟩ = some (.int .u64 (d2 (b.natAbs))) ∧ W.cell? ⟨w.heap.size + 1, 4, none⟩ = some (.int .u64 (d3 (b.natAbs)))) ∧ w.heap.size < W.heap.size ∧ w.heap.size + 1 < W.heap.size ∧ w.heap.size ≤ W.heap.size ∧ Below w.heap.size w W)
          (first | exact keepN ((Below.refl _ _).drew) HS.out | exact keepN ((Below.refl _ _).drew) (by assumption) | exact keepN hb (by assumption))
          (first
            | (go_at_call 50; refine (rSign_any _ _ (by assumption)).mono ?_; rintro e w' ⟨rfl, hb⟩)
            | (go_at_call 85; refine (less_any _ _ _ A.1 A.2 B.1 B.2).mono ?_; rintro e w' ⟨rfl, hb⟩))
        go_wp2
        go_region_held3 (fun W => (W.cell? ⟨w.heap.size, 0, none⟩ = some (.bool (decide (a < 0))) ∧ W.cell? ⟨w.heap.size, 1, none⟩ = some (.int .u64 (d0 (a.natAbs))) ∧ W.cell? ⟨w.heap.size, 2, none⟩ = some (.int .u64 (d1 (a.natAbs))) ∧ W.cell? ⟨w.heap.size, 3, none⟩ = some (.int .u64 (d2 (a.natAbs))) ∧ W.cell? ⟨w.heap.size, 4, none⟩ = some (.int .u64 (d3 (a.natAbs)))) ∧ (W.cell? ⟨w.heap.size + 1, 0, none⟩ = some (.bool (decide (b < 0))) ∧ W.cell? ⟨w.heap.size + 1, 1, none⟩ = some (.int .u64 (d0 (b.natAbs))) ∧ W.cell? ⟨w.heap.size + 1, 2, none⟩ = some (.int .u64 (d1 (b.natAbs))) ∧ W.cell? ⟨w.heap.size + 1, 3, none⟩ = some (.int .u64 (d2 (b.natAbs))) ∧ W.cell? ⟨w.heap.size + 1, 4, none⟩ = some (.int .u64 (d3 (b.natAbs)))) ∧ w.heap.size < W.heap.size ∧ w.heap.size + 1 < W.heap.size ∧ w.heap.size ≤ W.heap.size ∧ Below w.heap.size w W)
          (first | exact keepN ((Below.refl _ _).drew) HS.out | exact keepN ((Below.refl _ _).drew) (by assumption) | exact keepN hb (by assumption))
          (first
            | (go_at_call 50; refine (rSign_any _ _ (by assumption)).mono ?_; rintro e w' ⟨rfl, hb⟩)
            | (go_at_call 85; refine (less_any _ _ _ A.1 A.2 B.1 B.2).mono ?_; rintro e w' ⟨rfl, hb⟩))
        go_wp2
        go_ret
        exact ⟨retI K.out, endN (by assumption)⟩
      · have n' : (decide ((a.natAbs : Int) < b.natAbs) == decide (a < 0)) = false := by simpa using n
        have K := Lib.hid (same_lt s e n')
        have n2 : (decide (a.natAbs < b.natAbs) == decide (a < 0)) = false := by rw [← n']; congr 2; apply propext; omega
        clear s e n n'
        go_enter Try.func66, Try.ntmps66
        go_wp2_with fail
        have HS := Lib.hid (startN (B := w.heap.size) (w := w) ((CellN.new w (decide (a < 0)) a.natAbs 90).alloc (by simp) (.cells #[.bool (decide (b < 0)), .int .u64 (d0 b.natAbs), .int .u64 (d1 b.natAbs), .int .u64 (d2 b.natAbs), .int .u64 (d3 b.natAbs)] 90))
          (by have := CellN.new (w.alloc (.cells #[.bool (decide (a < 0)), .int .u64 (d0 a.natAbs), .int .u64 (d1 a.natAbs), .int .u64 (d2 a.natAbs), .int .u64 (d3 a.natAbs)] 90)) (decide (b < 0)) b.natAbs 90; simpa using this) (by simp; omega) (by simp) (by simp; omega) (by repeat (first | exact Below.refl _ _ | assumption | refine Below.setCell ?_ (by first | omega | (simp; done) | (simp; omega)) _ | refine Below.alloc ?_ (by first | omega | (simp; done) | (simp; omega)) _ | refine below_drewN ?_ _ | refine Below.drew ?_ | refine Below.trans ?_ (Below.mono (by assumption) (by first | omega | (simp; done) | (simp; omega))))))
        go_region_held3 (fun W => (W.cell? ⟨w.heap.size, 0, none⟩ = some (.bool (decide (a < 0))) ∧ W.cell? ⟨w.heap.size, 1, none⟩ = some (.int .u64 (d0 (a.natAbs))) ∧ W.cell? ⟨w.heap.size, 2, none⟩ = some (.int .u64 (d1 (a.natAbs))) ∧ W.cell? ⟨w.heap.size, 3, none⟩ = some (.int .u64 (d2 (a.natAbs))) ∧ W.cell? ⟨w.heap.size, 4, none⟩ = some (.int .u64 (d3 (a.natAbs)))) ∧ (W.cell? ⟨w.heap.size + 1, 0, none⟩ = some (.bool (decide (b < 0))) ∧ W.cell? ⟨w.heap.size + 1, 1, none⟩ = some (.int .u64 (d0 (b.natAbs))) ∧ W.cell? ⟨w.heap.size + 1, 2, none⟩ = some (.int .u64 (d1 (b.natAbs))) ∧ W.cell? ⟨w.heap.size + 1, 3, none⟩ = some (.int .u64 (d2 (b.natAbs))) ∧ W.cell? ⟨w.heap.size + 1, 4, none⟩ = some (.int .u64 (d3 (b.natAbs)))) ∧ w.heap.size < W.heap.size ∧ w.heap.size + 1 < W.heap.size ∧ w.heap.size ≤ W.heap.size ∧ Below w.heap.size w W)
          (first | exact keepN ((Below.refl _ _).drew) HS.out | exact keepN ((Below.refl _ _).drew) (by assumption) | exact keepN hb (by assumption))
          (first
            | (go_at_call 50; refine (rSign_any _ _ (by assumption)).mono ?_; rintro e w' ⟨rfl, hb⟩)
            | (go_at_call 85; refine (less_any _ _ _ A.1 A.2 B.1 B.2).mono ?_; rintro e w' ⟨rfl, hb⟩))
        go_wp2
        go_region_held3 (fun W => (W.cell? ⟨w.heap.size, 0, none⟩ = some (.bool (decide (a < 0))) ∧ W.cell? ⟨w.heap.size, 1, none⟩ = some (.int .u64 (d0 (a.natAbs))) ∧ W.cell? ⟨w.heap.size, 2, none⟩ = some (.int .u64 (d1 (a.natAbs))) ∧ W.cell? ⟨w.heap.size, 3, none⟩ = some (.int .u64 (d2 (a.natAbs))) ∧ W.cell? ⟨w.heap.size, 4, none⟩ = some (.int .u64 (d3 (a.natAbs)))) ∧ (W.cell? ⟨w.heap.size + 1, 0, none⟩ = some (.bool (decide (b < 0))) ∧ W.cell? ⟨w.heap.size + 1, 1, none⟩ = some (.int .u64 (d0 (b.natAbs))) ∧ W.cell? ⟨w.heap.size + 1, 2, none⟩ = some (.int .u64 (d1 (b.natAbs))) ∧ W.cell? ⟨w.heap.size + 1, 3, none⟩ = some (.int .u64 (d2 (b.natAbs))) ∧ W.cell? ⟨w.heap.size + 1, 4, none⟩ = some (.int .u64 (d3 (b.natAbs)))) ∧ w.heap.size < W.heap.size ∧ w.heap.size + 1 < W.heap.size ∧ w.heap.size ≤ W.heap.size ∧ Below w.heap.size w W)
          (first | exact keepN ((Below.refl _ _).drew) HS.out | exact keepN ((Below.refl _ _).drew) (by assumption) | exact keepN hb (by assumption))
          (first
            | (go_at_call 50; refine (rSign_any _ _ (by assumption)).mono ?_; rintro e w' ⟨rfl, hb⟩)
            | (go_at_call 85; refine (less_any _ _ _ A.1 A.2 B.1 B.2).mono ?_; rintro e w' ⟨rfl, hb⟩))
        go_wp2
        go_ret
        exact ⟨retI K.out, endN (by assumption)⟩
  · have t : (cmpI a 0 != cmpI b 0) = true := by simpa using s
    by_cases l : cmpI a 0 < cmpI b 0
    · have K := Lib.hid (show -1 = cmpI a b by unfold cmpI at l ⊢; split at l <;> split at l <;> (try split at l) <;> (try split at l) <;> (rw [if_neg (by omega), if_pos (by omega)]))
      clear s
      go_enter Try.func66, Try.ntmps66
      go_wp2_with fail
      have HS := Lib.hid (startN (B := w.heap.size) (w := w) ((CellN.new w (decide (a < 0)) a.natAbs 90).alloc (by simp) (.cells #[.bool (decide (b < 0)), .int .u64 (d0 b.natAbs), .int .u64 (d1 b.natAbs), .int .u64 (d2 b.natAbs), .int .u64 (d3 b.natAbs)] 90))
        (by have := CellN.new (w.alloc (.cells #[.bool (decide (a < 0)), .int .u64 (d0 a.natAbs), .int .u64 (d1 a.natAbs), .int .u64 (d2 a.natAbs), .int .u64 (d3 a.natAbs)] 90)) (decide (b < 0)) b.natAbs 90; simpa using this) (by simp; omega) (by simp) (by simp; omega) (by repeat (first | exact Below.refl _ _ | assumption | refine Below.setCell ?_ (by first | omega | (simp; done) | (simp; omega)) _ | refine Below.alloc ?_ (by first | omega | (simp; done) | (simp; omega)) _ | refine below_drewN ?_ _ | refine Below.drew ?_ | refine Below.trans ?_ (Below.mono (by assumption) (by first | omega | (simp; done) | (simp; omega))))))
      go_region_held3 (fun W => (W.cell? ⟨w.heap.size, 0, none⟩ = some (.bool (decide (a < 0))) ∧ W.cell? ⟨w.heap.size, 1, none⟩ = some (.int .u64 (d0 (a.natAbs))) ∧ W.cell? ⟨w.heap.size, 2, none⟩ = some (.int .u64 (d1 (a.natAbs))) ∧ W.cell? ⟨w.heap.size, 3, none⟩ = some (.int .u64 (d2 (a.natAbs))) ∧ W.cell? ⟨w.heap.size, 4, none⟩ = some (.int .u64 (d3 (a.natAbs)))) ∧ (W.cell? ⟨w.heap.size + 1, 0, none⟩ = some (.bool (decide (b < 0))) ∧ W.cell? ⟨w.heap.size + 1, 1, none⟩ = some (.int .u64 (d0 (b.natAbs))) ∧ W.cell? ⟨w.heap.size + 1, 2, none⟩ = some (.int .u64 (d1 (b.natAbs))) ∧ W.cell? ⟨w.heap.size + 1, 3, none⟩ = some (.int .u64 (d2 (b.natAbs))) ∧ W.cell? ⟨w.heap.size + 1, 4, none⟩ = some (.int .u64 (d3 (b.natAbs)))) ∧ w.heap.size < W.heap.size ∧ w.heap.size + 1 < W.heap.size ∧ w.heap.size ≤ W.heap.size ∧ Below w.heap.size w W)
        (first | exact keepN ((Below.refl _ _).drew) HS.out | exact keepN ((Below.refl _ _).drew) (by assumption) | exact keepN hb (by assumption))
        (first
          | (go_at_call 50; refine (rSign_any _ _ (by assumption)).mono ?_; rintro e w' ⟨rfl, hb⟩)
          | (go_at_call 85; refine (less_any _ _ _ A.1 A.2 B.1 B.2).mono ?_; rintro e w' ⟨rfl, hb⟩))
      go_wp2
      go_region_held3 (fun W => (W.cell? ⟨w.heap.size, 0, none⟩ = some (.bool (decide (a < 0))) ∧ W.cell? ⟨w.heap.size, 1, none⟩ = some (.int .u64 (d0 (a.natAbs))) ∧ W.cell? ⟨w.heap.size, 2, none⟩ = some (.int .u64 (d1 (a.natAbs))) ∧ W.cell? ⟨w.heap.size, 3, none⟩ = some (.int .u64 (d2 (a.natAbs))) ∧ W.cell? ⟨w.heap.size, 4, none⟩ = some (.int .u64 (d3 (a.natAbs)))) ∧ (W.cell? ⟨w.heap.size + 1, 0, none⟩ = some (.bool (decide (b < 0))) ∧ W.cell? ⟨w.heap.size + 1, 1, none⟩ = some (.int .u64 (d0 (b.natAbs))) ∧ W.cell? ⟨w.heap.size + 1, 2, none⟩ = some (.int .u64 (d1 (b.natAbs))) ∧ W.cell? ⟨w.heap.size + 1, 3, none⟩ = some (.int .u64 (d2 (b.natAbs))) ∧ W.cell? ⟨w.heap.size + 1, 4, none⟩ = some (.int .u64 (d3 (b.natAbs)))) ∧ w.heap.size < W.heap.size ∧ w.heap.size + 1 < W.heap.size ∧ w.heap.size ≤ W.heap.size ∧ Below w.heap.size w W)
        (first | exact keepN ((Below.refl _ _).drew) HS.out | exact keepN ((Below.refl _ _).drew) (by assumption) | exact keepN hb (by assumption))
        (first
          | (go_at_call 50; refine (rSign_any _ _ (by assumption)).mono ?_; rintro e w' ⟨rfl, hb⟩)
          | (go_at_call 85; refine (less_any _ _ _ A.1 A.2 B.1 B.2).mono ?_; rintro e w' ⟨rfl, hb⟩))
      go_wp2
      go_ret
      exact ⟨retI K.out, endN (by assumption)⟩
    · have K := Lib.hid (show 1 = cmpI a b by unfold cmpI at l s ⊢; split at l <;> split at l <;> (try split at l) <;> (try split at l) <;> (first | (rw [if_neg (by omega), if_neg (by omega)]) | (exfalso; simp_all; done) | (exfalso; omega)))
      clear s
      go_enter Try.func66, Try.ntmps66
      go_wp2_with fail
      have HS := Lib.hid (startN (B := w.heap.size) (w := w) ((CellN.new w (decide (a < 0)) a.natAbs 90).alloc (by simp) (.cells #[.bool (decide (b < 0)), .int .u64 (d0 b.natAbs), .int .u64 (d1 b.natAbs), .int .u64 (d2 b.natAbs), .int .u64 (d3 b.natAbs)] 90))
        (by have := CellN.new (w.alloc (.cells #[.bool (decide (a < 0)), .int .u64 (d0 a.natAbs), .int .u64 (d1 a.natAbs), .int .u64 (d2 a.natAbs), .int .u64 (d3 a.natAbs)] 90)) (decide (b < 0)) b.natAbs 90; simpa using this) (by simp; omega) (by simp) (by simp; omega) (by repeat (first | exact Below.refl _ _ | assumption | refine Below.setCell ?_ (by first | omega | (simp; done) | (simp; omega)) _ | refine Below.alloc ?_ (by first | omega | (simp; done) | (simp; omega)) _ | refine below_drewN ?_ _ | refine Below.drew ?_ | refine Below.trans ?_ (Below.mono (by assumption) (by first | omega | (simp; done) | (simp; omega))))))
      go_region_held3 (fun W => (W.cell? ⟨w.heap.size, 0, none⟩ = some (.bool (decide (a < 0))) ∧ W.cell? ⟨w.heap.size, 1, none⟩ = some (.int .u64 (d0 (a.natAbs))) ∧ W.cell? ⟨w.heap.size, 2, none⟩ = some (.int .u64 (d1 (a.natAbs))) ∧ W.cell? ⟨w.heap.size, 3, none⟩ = some (.int .u64 (d2 (a.natAbs))) ∧ W.cell? ⟨w.heap.size, 4, none⟩ = some (.int .u64 (d3 (a.natAbs)))) ∧ (W.cell? ⟨w.heap.size + 1, 0, none⟩ = some (.bool (decide (b < 0))) ∧ W.cell? ⟨w.heap.size + 1, 1, none⟩ = some (.int .u64 (d0 (b.natAbs))) ∧ W.cell? ⟨w.heap.size + 1, 2, none⟩ = some (.int .u64 (d1 (b.natAbs))) ∧ W.cell? ⟨w.heap.size + 1, 3, none⟩ = some (.int .u64 (d2 (b.natAbs))) ∧ W.cell? ⟨w.heap.size + 1, 4, none⟩ = some (.int .u64 (d3 (b.natAbs)))) ∧ w.heap.size < W.heap.size ∧ w.heap.size + 1 < W.heap.size ∧ w.heap.size ≤ W.heap.size ∧ Below w.heap.size w W)
        (first | exact keepN ((Below.refl _ _).drew) HS.out | exact keepN ((Below.refl _ _).drew) (by assumption) | exact keepN hb (by assumption))
        (first
          | (go_at_call 50; refine (rSign_any _ _ (by assumption)).mono ?_; rintro e w' ⟨rfl, hb⟩)
          | (go_at_call 85; refine (less_any _ _ _ A.1 A.2 B.1 B.2).mono ?_; rintro e w' ⟨rfl, hb⟩))
      go_wp2
      go_region_held3 (fun W => (W.cell? ⟨w.heap.size, 0, none⟩ = some (.bool (decide (a < 0))) ∧ W.cell? ⟨w.heap.size, 1, none⟩ = some (.int .u64 (d0 (a.natAbs))) ∧ W.cell? ⟨w.heap.size, 2, none⟩ = some (.int .u64 (d1 (a.natAbs))) ∧ W.cell? ⟨w.heap.size, 3, none⟩ = some (.int .u64 (d2 (a.natAbs))) ∧ W.cell? ⟨w.heap.size, 4, none⟩ = some (.int .u64 (d3 (a.natAbs)))) ∧ (W.cell? ⟨w.heap.size + 1, 0, none⟩ = some (.bool (decide (b < 0))) ∧ W.cell? ⟨w.heap.size + 1, 1, none⟩ = some (.int .u64 (d0 (b.natAbs))) ∧ W.cell? ⟨w.heap.size + 1, 2, none⟩ = some (.int .u64 (d1 (b.natAbs))) ∧ W.cell? ⟨w.heap.size + 1, 3, none⟩ = some (.int .u64 (d2 (b.natAbs))) ∧ W.cell? ⟨w.heap.size + 1, 4, none⟩ = some (.int .u64 (d3 (b.natAbs)))) ∧ w.heap.size < W.heap.size ∧ w.heap.size + 1 < W.heap.size ∧ w.heap.size ≤ W.heap.size ∧ Below w.heap.size w W)
        (first | exact keepN ((Below.refl _ _).drew) HS.out | exact keepN ((Below.refl _ _).drew) (by assumption) | exact keepN hb (by assumption))
        (first
          | (go_at_call 50; refine (rSign_any _ _ (by assumption)).mono ?_; rintro e w' ⟨rfl, hb⟩)
          | (go_at_call 85; refine (less_any _ _ _ A.1 A.2 B.1 B.2).mono ?_; rintro e w' ⟨rfl, hb⟩))
      go_wp2
      go_ret
      exact ⟨retI K.out, endN (by assumption)⟩
end Go.Proofs.Ytllkhgcokbpggaa
namespace Go.Proofs.Ytllkhgcokbpggaa
open Go.RowKit

/-- two digits lie in block n -/
structure CellL (w : World) (n : Nat) (a b : Int) : Prop where
  c0 : w.cell? ⟨n, 0, none⟩ = some (.int .u64 a)
  c1 : w.cell? ⟨n, 1, none⟩ = some (.int .u64 b)
theorem CellL.below {B : Nat} {w w' : World} {n : Nat} {a b : Int} (k : CellL w n a b) (hb : Below B w w') (hn : n < B) : CellL w' n a b :=
  ⟨(hb.cell (p := ⟨n, 0, none⟩) hn).trans k.c0, (hb.cell (p := ⟨n, 1, none⟩) hn).trans k.c1⟩
theorem CellL.far {w : World} {n m : Nat} {a b : Int} (k : CellL w n a b) (hn : m ≠ n) (i : Nat) (v : Value) : CellL (w.setCell ⟨m, i, none⟩ v) n a b :=
  ⟨(World.cell?_setCell_other _ _ _ _ (addr_b hn)).trans k.c0, (World.cell?_setCell_other _ _ _ _ (addr_b hn)).trans k.c1⟩
theorem CellL.drewN {w : World} {n : Nat} {a b : Int} (k : CellL w n a b) (q : Nat) : CellL (w.drewN q) n a b := ⟨k.c0, k.c1⟩

/-- all that the loops know of memory -/
structure MulS (w wr : World) (s : Bool) (l0 l1 m0 m1 x0 x1 x2 x3 : Int) : Prop where
  o : CellO wr (w.heap.size + 1 + 1 + 1) s x0 x1 x2 x3
  l : CellL wr (w.heap.size + 1) l0 l1
  m : CellL wr (w.heap.size + 1 + 1) m0 m1
  z : w.heap.size + 1 + 1 + 1 < wr.heap.size
  r : (∀ j, wr.frozen? ⟨w.heap.size, j, none⟩ = false) ∧ (∃ v, wr.cell? ⟨w.heap.size, 0, none⟩ = some v) ∧ (∃ v, wr.cell? ⟨w.heap.size, 1, none⟩ = some v) ∧ (∃ v, wr.cell? ⟨w.heap.size, 2, none⟩ = some v) ∧ (∃ v, wr.cell? ⟨w.heap.size, 3, none⟩ = some v) ∧ (∃ v, wr.cell? ⟨w.heap.size, 4, none⟩ = some v)
  b : Below w.heap.size w wr

theorem mulS_start (w : World) (s : Bool) (l0 l1 m0 m1 : Int) (t u : TypeId) :
    MulS w ((((w.alloc (.cells #[.bool false, .int .u64 0, .int .u64 0, .int .u64 0, .int .u64 0] t)).alloc (.cells #[.int .u64 l0, .int .u64 l1] u)).alloc (.cells #[.int .u64 m0, .int .u64 m1] u)).alloc (.cells #[.bool s, .int .u64 0, .int .u64 0, .int .u64 0, .int .u64 0] t)) s l0 l1 m0 m1 0 0 0 0 :=
  ⟨⟨by go_simp, by go_simp, by go_simp, by go_simp, by go_simp, fun j => by go_simp⟩, ⟨by go_simp, by go_simp⟩, ⟨by go_simp, by go_simp⟩, by simp,
    ⟨fun j => by go_simp, ⟨.bool false, by go_simp⟩, ⟨.int .u64 0, by go_simp⟩, ⟨.int .u64 0, by go_simp⟩, ⟨.int .u64 0, by go_simp⟩, ⟨.int .u64 0, by go_simp⟩⟩, by repeat (first | exact Below.refl _ _ | assumption | refine Below.setCell ?_ (by first | omega | (simp; done) | (simp; omega)) _ | refine Below.alloc ?_ (by first | omega | (simp; done) | (simp; omega)) _ | refine below_drewN ?_ _ | refine Below.drew ?_ | refine Below.trans ?_ (Below.mono (by assumption) (by first | omega | (simp; done) | (simp; omega))))⟩
theorem MulS.drewN {w wr : World} {s : Bool} {l0 l1 m0 m1 x0 x1 x2 x3 : Int} (k : MulS w wr s l0 l1 m0 m1 x0 x1 x2 x3) (q : Nat) : MulS w (wr.drewN q) s l0 l1 m0 m1 x0 x1 x2 x3 :=
  ⟨k.o.drewN q, k.l.drewN q, k.m.drewN q, k.z, k.r, below_drewN k.b q⟩
theorem far_some {w : World} {n m i j : Nat} {u : Value} (h : n ≠ m) (k : ∃ v, w.cell? ⟨m, j, none⟩ = some v) : ∃ v, (w.setCell ⟨n, i, none⟩ u).cell? ⟨m, j, none⟩ = some v :=
  k.elim fun v hv => ⟨v, (World.cell?_setCell_other _ _ _ _ (addr_b h)).trans hv⟩
theorem MulS.put {w wr : World} {s : Bool} {l0 l1 m0 m1 x0 x1 x2 x3 y0 y1 y2 y3 : Int} (k : MulS w wr s l0 l1 m0 m1 x0 x1 x2 x3) (i : Nat) (v : Value) (o : CellO (wr.setCell ⟨w.heap.size + 1 + 1 + 1, i, none⟩ v) (w.heap.size + 1 + 1 + 1) s y0 y1 y2 y3) :
    MulS w (wr.setCell ⟨w.heap.size + 1 + 1 + 1, i, none⟩ v) s l0 l1 m0 m1 y0 y1 y2 y3 :=
  ⟨o, k.l.far (by omega) _ _, k.m.far (by omega) _ _, by have := k.z; simpa [World.setCell] using this,
    ⟨fun j => (World.frozen?_setCell _ _ _ _).trans (k.r.1 j), far_some (by omega) k.r.2.1, far_some (by omega) k.r.2.2.1, far_some (by omega) k.r.2.2.2.1, far_some (by omega) k.r.2.2.2.2.1, far_some (by omega) k.r.2.2.2.2.2⟩, k.b.setCell (by simp; omega) _⟩

theorem mul_abs (a b : Int) : ((a * b).natAbs : Int) = (a.natAbs : Int) * (b.natAbs : Int) := by rw [Int.natAbs_mul, Int.natCast_mul]
theorem mul_sgn (a b : Int) (h : a * b ≠ 0) : decide (a * b < 0) = (!decide (a < 0) == decide (b < 0)) := by
  rcases Int.lt_trichotomy a 0 with p | p | p <;> rcases Int.lt_trichotomy b 0 with q | q | q
  · have := Int.mul_pos_of_neg_of_neg p q
    rw [decide_eq_false (by omega), decide_eq_true p, decide_eq_true q]; rfl
  · subst q; simp at h
  · have := Int.mul_neg_of_neg_of_pos p q
    rw [decide_eq_true this, decide_eq_true p, decide_eq_false (by omega)]; rfl
  · subst p; simp at h
  · subst p; simp at h
  · subst p; simp at h
  · have := Int.mul_neg_of_pos_of_neg p q
    rw [decide_eq_true this, decide_eq_false (by omega), decide_eq_true q]; rfl
  · subst q; simp at h
  · have := Int.mul_pos p q
    rw [decide_eq_false (by omega), decide_eq_false (by omega), decide_eq_false (by omega)]; rfl
theorem MulS.below {w wr w1 : World} {s : Bool} {l0 l1 m0 m1 x0 x1 x2 x3 : Int} (k : MulS w wr s l0 l1 m0 m1 x0 x1 x2 x3) (hb : Below wr.heap.size wr w1) : MulS w w1 s l0 l1 m0 m1 x0 x1 x2 x3 := by
  have z := k.z
  have y := hb.size
  exact ⟨k.o.below hb z, k.l.below hb (by omega), k.m.below hb (by omega), by omega,
    ⟨fun j => (hb.frozen (p := ⟨w.heap.size, j, none⟩) (by simp; omega)).trans (k.r.1 j), below_some hb (by omega) k.r.2.1, below_some hb (by omega) k.r.2.2.1, below_some hb (by omega) k.r.2.2.2.1, below_some hb (by omega) k.r.2.2.2.2.1, below_some hb (by omega) k.r.2.2.2.2.2⟩, k.b.trans (hb.mono (by omega))⟩
set_option maxHeartbeats 8000000 in
set_option maxRecDepth 100000 in
theorem rMul_any (a b : Int) (w : World) (a0 : -9223372036854775808 ≤ a) (a1 : a ≤ 9223372036854775807) (b0 : -9223372036854775808 ≤ b) (b1 : b ≤ 9223372036854775807) :
    Calls Try.prog 64 #[.int .i64 a, .int .i64 b] w fun e w' => e = .returned (.agg #[.bool (decide (a * b < 0)), .int .u64 (d0 ((a * b).natAbs)), .int .u64 (d1 ((a * b).natAbs)), .int .u64 (d2 ((a * b).natAbs)), .int .u64 (d3 ((a * b).natAbs))]) ∧ Below w.heap.size w w' := by
  obtain ⟨X, eX⟩ : ∃ X : Int, (a.natAbs : Int) = X := ⟨_, rfl⟩
  obtain ⟨Y, eY⟩ : ∃ Y : Int, (b.natAbs : Int) = Y := ⟨_, rfl⟩
  have X0 : 0 ≤ X := by omega
  have X1 : X ≤ 18446744073709551615 := by omega
  have Y0 : 0 ≤ Y := by omega
  have Y1 : Y ≤ 18446744073709551615 := by omega
  obtain ⟨l0, el0⟩ : ∃ l0, X % 4294967296 = l0 := ⟨_, rfl⟩
  obtain ⟨l1, el1⟩ : ∃ l1, X / 4294967296 = l1 := ⟨_, rfl⟩
  obtain ⟨m0, em0⟩ : ∃ m0, Y % 4294967296 = m0 := ⟨_, rfl⟩
  obtain ⟨m1, em1⟩ : ∃ m1, Y / 4294967296 = m1 := ⟨_, rfl⟩
  obtain ⟨s, es⟩ : ∃ s, (!decide (a < 0) == decide (b < 0)) = s := ⟨_, rfl⟩
  have l00 : 0 ≤ l0 := by omega
  have l01 : l0 ≤ 4294967295 := by omega
  have l10 : 0 ≤ l1 := by omega
  have l11 : l1 ≤ 4294967295 := by omega
  have m00 : 0 ≤ m0 := by omega
  have m01 : m0 ≤ 4294967295 := by omega
  have m10 : 0 ≤ m1 := by omega
  have m11 : m1 ≤ 4294967295 := by omega
  have EL := Lib.hid (show l0 + l1 * 4294967296 = X by omega)
  have EM := Lib.hid (show m0 + m1 * 4294967296 = Y by omega)
  go_enter Try.func64, Try.ntmps64
  go_wp2_with fail
  refine (Size_any a _ a0 a1).mono ?_
  rintro e w1 ⟨rfl, rfl⟩
  go_wp2_with fail
  refine (Size_any b _ b0 b1).mono ?_
  rintro e w1 ⟨rfl, rfl⟩
  go_wp2_with fail
  refine (low_any _ _ (by omega) (by omega)).mono ?_
  rintro e w1 ⟨rfl, rfl⟩
  go_wp2_with fail
  refine (low_any _ _ (by omega) (by omega)).mono ?_
  rintro e w1 ⟨rfl, rfl⟩
  go_wp2
  have PB : ∀ i k : Nat, psum l0 l1 m0 m1 i k < 340282366920938463463374607431768211456 := by
    intro i k
    have p00 := dig_prod l00 l01 m00 m01
    have p01 := dig_prod l00 l01 m10 m11
    have p10 := dig_prod l10 l11 m00 m01
    have p11 := dig_prod l10 l11 m10 m11
    unfold psum
    split <;> split <;> split <;> split <;> omega
  have PBH := Lib.hid PB
  have ES := Lib.hid es
  have EX := Lib.hid eX
  have EY := Lib.hid eY
  rw [em1]
  clear PB el0 el1 em0 em1 eX eY es
  go_loopw [10] (fun v wr => ∃ (i : Nat) (x0 x1 x2 x3 : Int), i ≤ 2 ∧ v = .int .i64 i ∧ IsD x0 x1 x2 x3 (psum l0 l1 m0 m1 i 0) ∧ MulS w wr s l0 l1 m0 m1 x0 x1 x2 x3) (fun v _ => 2 - (intOf v).toNat)
  case atStart => exact ⟨0, 0, 0, 0, 0, by omega, rfl, by simpa [psum] using isD_zero, mulS_start w s l0 l1 m0 m1 _ _⟩
  case round =>
    obtain ⟨i, x0, x1, x2, x3, hi, rfl, D, M⟩ := hrel
    have D := Lib.hid D
    by_cases ii : i < 2
    · rcases (show i = 0 ∨ i = 1 by omega) with h | h
      · obtain rfl : i = 0 := h
        rw [show ((0 : Nat) : Int) = 0 from rfl]
        clear ii hi
        go_wp2
        go_loopw [11] (fun v wr => ∃ (k : Nat) (x0 x1 x2 x3 : Int), k ≤ 2 ∧ v = .int .i64 k ∧ IsD x0 x1 x2 x3 (psum l0 l1 m0 m1 0 k) ∧ MulS w wr s l0 l1 m0 m1 x0 x1 x2 x3) (fun v _ => 2 - (intOf v).toNat)
        case atStart => exact ⟨0, x0, x1, x2, x3, by omega, rfl, D.out, M⟩
        case round =>
          clear D M
          obtain ⟨k, x0, x1, x2, x3, hk, rfl, D, M⟩ := hrel
          have D := Lib.hid D
          by_cases kk : k < 2
          · rcases (show k = 0 ∨ k = 1 by omega) with h | h
            · obtain rfl : k = 0 := h
              rw [show ((0 : Nat) : Int) = 0 from rfl]
              clear kk hk
              have hp := dig_prod (a := l0) (b := m0) (by omega) (by omega) (by omega) (by omega)
              have o0 := M.o.c0
              have o1 := M.o.c1
              have o2 := M.o.c2
              have o3 := M.o.c3
              have o4 := M.o.c4
              have of := M.o.f
              have q0 := M.l.c0
              have q1 := M.l.c1
              have q2 := M.m.c0
              have q3 := M.m.c1
              go_wp2
              go_quiet (fail)
              go_wp2
              go_loopw [13, 14] (fun c t wr => ∃ (tt : Nat) (y0 y1 y2 y3 cc : Int), t = .int .i64 tt ∧ c = .int .u64 cc ∧ Acc tt y0 y1 y2 y3 cc (psum l0 l1 m0 m1 0 (0 + 1)) ∧ MulS w wr s l0 l1 m0 m1 y0 y1 y2 y3) (fun _ t _ => 4 - (intOf t).toNat)
              case atStart => exact ⟨0 + 0, x0, x1, x2, x3, l0 * m0, by go_num, rfl, (by have := Acc.start (t := 0 + 0) D.out hp.1 (by omega) (by omega); simpa [psum, Int.add_assoc] using this), M.drewN _⟩
              case round =>
                clear o0 o1 o2 o3 o4 of q0 q1 q2 q3 M D
                obtain ⟨tt, y0, y1, y2, y3, cc, rfl, rfl, K, M⟩ := hrel
                have k0 := K.k0
                have k1 := K.k1
                have ya := K.a0
                have yb := K.a1
                have yc := K.b0
                have yd := K.b1
                have ye := K.c0
                have yf := K.c1
                have yg := K.d0
                have yh := K.d1
                have yt := K.t4
                by_cases c : cc = 0 ∨ tt = 4
                · have DN := Lib.hid (K.done c (PBH.out 0 (0 + 1)))
                  by_cases c4 : tt = 4
                  · subst c4
                    rw [show ((4 : Nat) : Int) = 4 from rfl]
                    clear c K
                    go_wp2
                    go_roundw
                    case rel => first | exact ⟨0 + 1, _, _, _, _, by omega, by go_num, DN.out, M⟩ | ((repeat apply Exists.intro); exact ⟨⟨0 + 1, _, _, _, _, by omega, by go_num, DN.out, M⟩, rfl⟩)
                    case measure => simp [intOf]
                  · obtain rfl : cc = 0 := by omega
                    clear c K
                    go_wp2
                    go_roundw
                    case rel => first | exact ⟨0 + 1, _, _, _, _, by omega, by go_num, DN.out, M⟩ | ((repeat apply Exists.intro); exact ⟨⟨0 + 1, _, _, _, _, by omega, by go_num, DN.out, M⟩, rfl⟩)
                    case measure => simp [intOf]
                · have c0 : 0 < cc := by omega
                  have ct : tt < 4 := by omega
                  clear c
                  rcases (show tt = 0 ∨ tt = 1 ∨ tt = 2 ∨ tt = 3 by omega) with h | h | h | h
                  · obtain rfl : tt = 0 := h
                    rw [show ((0 : Nat) : Int) = 0 from rfl]
                    clear ct
                    have ks := K.s0
                    have KS := Lib.hid ks
                    clear ks K
                    have o0 := M.o.c0
                    have o1 := M.o.c1
                    have o2 := M.o.c2
                    have o3 := M.o.c3
                    have o4 := M.o.c4
                    have of := M.o.f
                    have q0 := M.l.c0
                    have q1 := M.l.c1
                    have q2 := M.m.c0
                    have q3 := M.m.c1
                    go_wp2
                    go_quiet ((go_at_call 89; exact Calls.quiet_of_same (low_any _ _ k0 k1)))
                    go_wp2_with fail
                    refine (low_any _ _ (by omega) (by omega)).mono ?_
                    rintro e w1 ⟨rfl, rfl⟩
                    go_wp2
                    go_roundw
                    case rel => exact ⟨1, _, _, _, _, _, by go_num, rfl, KS.out, (M.drewN _).put _ _ ((M.drewN _).o.set0 _)⟩
                    case measure => simp [intOf]
                  · obtain rfl : tt = 1 := h
                    rw [show ((1 : Nat) : Int) = 1 from rfl]
                    clear ct
                    have ks := K.s1
                    have KS := Lib.hid ks
                    clear ks K
                    have o0 := M.o.c0
                    have o1 := M.o.c1
                    have o2 := M.o.c2
                    have o3 := M.o.c3
                    have o4 := M.o.c4
                    have of := M.o.f
                    have q0 := M.l.c0
                    have q1 := M.l.c1
                    have q2 := M.m.c0
                    have q3 := M.m.c1
                    go_wp2
                    go_quiet ((go_at_call 89; exact Calls.quiet_of_same (low_any _ _ k0 k1)))
                    go_wp2_with fail
                    refine (low_any _ _ (by omega) (by omega)).mono ?_
                    rintro e w1 ⟨rfl, rfl⟩
                    go_wp2
                    go_roundw
                    case rel => exact ⟨2, _, _, _, _, _, by go_num, rfl, KS.out, (M.drewN _).put _ _ ((M.drewN _).o.set1 _)⟩
                    case measure => simp [intOf]
                  · obtain rfl : tt = 2 := h
                    rw [show ((2 : Nat) : Int) = 2 from rfl]
                    clear ct
                    have ks := K.s2
                    have KS := Lib.hid ks
                    clear ks K
                    have o0 := M.o.c0
                    have o1 := M.o.c1
                    have o2 := M.o.c2
                    have o3 := M.o.c3
                    have o4 := M.o.c4
                    have of := M.o.f
                    have q0 := M.l.c0
                    have q1 := M.l.c1
                    have q2 := M.m.c0
                    have q3 := M.m.c1
                    go_wp2
                    go_quiet ((go_at_call 89; exact Calls.quiet_of_same (low_any _ _ k0 k1)))
                    go_wp2_with fail
                    refine (low_any _ _ (by omega) (by omega)).mono ?_
                    rintro e w1 ⟨rfl, rfl⟩
                    go_wp2
                    go_roundw
                    case rel => exact ⟨3, _, _, _, _, _, by go_num, rfl, KS.out, (M.drewN _).put _ _ ((M.drewN _).o.set2 _)⟩
                    case measure => simp [intOf]
                  · obtain rfl : tt = 3 := h
                    rw [show ((3 : Nat) : Int) = 3 from rfl]
                    clear ct
                    have ks := K.s3
                    have KS := Lib.hid ks
                    clear ks K
                    have o0 := M.o.c0
                    have o1 := M.o.c1
                    have o2 := M.o.c2
                    have o3 := M.o.c3
                    have o4 := M.o.c4
                    have of := M.o.f
                    have q0 := M.l.c0
                    have q1 := M.l.c1
                    have q2 := M.m.c0
                    have q3 := M.m.c1
                    go_wp2
                    go_quiet ((go_at_call 89; exact Calls.quiet_of_same (low_any _ _ k0 k1)))
                    go_wp2_with fail
                    refine (low_any _ _ (by omega) (by omega)).mono ?_
                    rintro e w1 ⟨rfl, rfl⟩
                    go_wp2
                    go_roundw
                    case rel => exact ⟨4, _, _, _, _, _, by go_num, rfl, KS.out, (M.drewN _).put _ _ ((M.drewN _).o.set3 _)⟩
                    case measure => simp [intOf]
            · obtain rfl : k = 1 := h
              rw [show ((1 : Nat) : Int) = 1 from rfl]
              clear kk hk
              have hp := dig_prod (a := l0) (b := m1) (by omega) (by omega) (by omega) (by omega)
              have o0 := M.o.c0
              have o1 := M.o.c1
              have o2 := M.o.c2
              have o3 := M.o.c3
              have o4 := M.o.c4
              have of := M.o.f
              have q0 := M.l.c0
              have q1 := M.l.c1
              have q2 := M.m.c0
              have q3 := M.m.c1
              go_wp2
              go_quiet (fail)
              go_wp2
              go_loopw [13, 14] (fun c t wr => ∃ (tt : Nat) (y0 y1 y2 y3 cc : Int), t = .int .i64 tt ∧ c = .int .u64 cc ∧ Acc tt y0 y1 y2 y3 cc (psum l0 l1 m0 m1 0 (1 + 1)) ∧ MulS w wr s l0 l1 m0 m1 y0 y1 y2 y3) (fun _ t _ => 4 - (intOf t).toNat)
              case atStart => exact ⟨0 + 1, x0, x1, x2, x3, l0 * m1, by go_num, rfl, (by have := Acc.start (t := 0 + 1) D.out hp.1 (by omega) (by omega); simpa [psum, Int.add_assoc] using this), M.drewN _⟩
              case round =>
                clear o0 o1 o2 o3 o4 of q0 q1 q2 q3 M D
                obtain ⟨tt, y0, y1, y2, y3, cc, rfl, rfl, K, M⟩ := hrel
                have k0 := K.k0
                have k1 := K.k1
                have ya := K.a0
                have yb := K.a1
                have yc := K.b0
                have yd := K.b1
                have ye := K.c0
                have yf := K.c1
                have yg := K.d0
                have yh := K.d1
                have yt := K.t4
                by_cases c : cc = 0 ∨ tt = 4
                · have DN := Lib.hid (K.done c (PBH.out 0 (1 + 1)))
                  by_cases c4 : tt = 4
                  · subst c4
                    rw [show ((4 : Nat) : Int) = 4 from rfl]
                    clear c K
                    go_wp2
                    go_roundw
                    case rel => first | exact ⟨1 + 1, _, _, _, _, by omega, by go_num, DN.out, M⟩ | ((repeat apply Exists.intro); exact ⟨⟨1 + 1, _, _, _, _, by omega, by go_num, DN.out, M⟩, rfl⟩)
                    case measure => simp [intOf]
                  · obtain rfl : cc = 0 := by omega
                    clear c K
                    go_wp2
                    go_roundw
                    case rel => first | exact ⟨1 + 1, _, _, _, _, by omega, by go_num, DN.out, M⟩ | ((repeat apply Exists.intro); exact ⟨⟨1 + 1, _, _, _, _, by omega, by go_num, DN.out, M⟩, rfl⟩)
                    case measure => simp [intOf]
                · have c0 : 0 < cc := by omega
                  have ct : tt < 4 := by omega
                  clear c
                  rcases (show tt = 0 ∨ tt = 1 ∨ tt = 2 ∨ tt = 3 by omega) with h | h | h | h
                  · obtain rfl : tt = 0 := h
                    rw [show ((0 : Nat) : Int) = 0 from rfl]
                    clear ct
                    have ks := K.s0
                    have KS := Lib.hid ks
                    clear ks K
                    have o0 := M.o.c0
                    have o1 := M.o.c1
                    have o2 := M.o.c2
                    have o3 := M.o.c3
                    have o4 := M.o.c4
                    have of := M.o.f
                    have q0 := M.l.c0
                    have q1 := M.l.c1
                    have q2 := M.m.c0
                    have q3 := M.m.c1
                    go_wp2
                    go_quiet ((go_at_call 89; exact Calls.quiet_of_same (low_any _ _ k0 k1)))
                    go_wp2_with fail
                    refine (low_any _ _ (by omega) (by omega)).mono ?_
                    rintro e w1 ⟨rfl, rfl⟩
                    go_wp2
                    go_roundw
                    case rel => exact ⟨1, _, _, _, _, _, by go_num, rfl, KS.out, (M.drewN _).put _ _ ((M.drewN _).o.set0 _)⟩
                    case measure => simp [intOf]
                  · obtain rfl : tt = 1 := h
                    rw [show ((1 : Nat) : Int) = 1 from rfl]
                    clear ct
                    have ks := K.s1
                    have KS := Lib.hid ks
                    clear ks K
                    have o0 := M.o.c0
                    have o1 := M.o.c1
                    have o2 := M.o.c2
                    have o3 := M.o.c3
                    have o4 := M.o.c4
                    have of := M.o.f
                    have q0 := M.l.c0
                    have q1 := M.l.c1
                    have q2 := M.m.c0
                    have q3 := M.m.c1
                    go_wp2
                    go_quiet ((go_at_call 89; exact Calls.quiet_of_same (low_any _ _ k0 k1)))
                    go_wp2_with fail
                    refine (low_any _ _ (by omega) (by omega)).mono ?_
                    rintro e w1 ⟨rfl, rfl⟩
                    go_wp2
                    go_roundw
                    case rel => exact ⟨2, _, _, _, _, _, by go_num, rfl, KS.out, (M.drewN _).put _ _ ((M.drewN _).o.set1 _)⟩
                    case measure => simp [intOf]
                  · obtain rfl : tt = 2 := h
                    rw [show ((2 : Nat) : Int) = 2 from rfl]
                    clear ct
                    have ks := K.s2
                    have KS := Lib.hid ks
                    clear ks K
                    have o0 := M.o.c0
                    have o1 := M.o.c1
                    have o2 := M.o.c2
                    have o3 := M.o.c3
                    have o4 := M.o.c4
                    have of := M.o.f
                    have q0 := M.l.c0
                    have q1 := M.l.c1
                    have q2 := M.m.c0
                    have q3 := M.m.c1
                    go_wp2
                    go_quiet ((go_at_call 89; exact Calls.quiet_of_same (low_any _ _ k0 k1)))
                    go_wp2_with fail
                    refine (low_any _ _ (by omega) (by omega)).mono ?_
                    rintro e w1 ⟨rfl, rfl⟩
                    go_wp2
                    go_roundw
                    case rel => exact ⟨3, _, _, _, _, _, by go_num, rfl, KS.out, (M.drewN _).put _ _ ((M.drewN _).o.set2 _)⟩
                    case measure => simp [intOf]
                  · obtain rfl : tt = 3 := h
                    rw [show ((3 : Nat) : Int) = 3 from rfl]
                    clear ct
                    have ks := K.s3
                    have KS := Lib.hid ks
                    clear ks K
                    have o0 := M.o.c0
                    have o1 := M.o.c1
                    have o2 := M.o.c2
                    have o3 := M.o.c3
                    have o4 := M.o.c4
                    have of := M.o.f
                    have q0 := M.l.c0
                    have q1 := M.l.c1
                    have q2 := M.m.c0
                    have q3 := M.m.c1
                    go_wp2
                    go_quiet ((go_at_call 89; exact Calls.quiet_of_same (low_any _ _ k0 k1)))
                    go_wp2_with fail
                    refine (low_any _ _ (by omega) (by omega)).mono ?_
                    rintro e w1 ⟨rfl, rfl⟩
                    go_wp2
                    go_roundw
                    case rel => exact ⟨4, _, _, _, _, _, by go_num, rfl, KS.out, (M.drewN _).put _ _ ((M.drewN _).o.set3 _)⟩
                    case measure => simp [intOf]
          · obtain rfl : k = 2 := by omega
            rw [show ((2 : Nat) : Int) = 2 from rfl]
            clear kk hk
            go_wp2
            go_roundw
            case rel => first | exact ⟨0 + 1, x0, x1, x2, x3, by omega, by go_num, by have := D.out; simpa [psum] using this, M⟩ | ((repeat apply Exists.intro); exact ⟨⟨0 + 1, x0, x1, x2, x3, by omega, by go_num, by have := D.out; simpa [psum] using this, M⟩, rfl⟩)
            case measure => simp [intOf]
      · obtain rfl : i = 1 := h
        rw [show ((1 : Nat) : Int) = 1 from rfl]
        clear ii hi
        go_wp2
        go_loopw [11] (fun v wr => ∃ (k : Nat) (x0 x1 x2 x3 : Int), k ≤ 2 ∧ v = .int .i64 k ∧ IsD x0 x1 x2 x3 (psum l0 l1 m0 m1 1 k) ∧ MulS w wr s l0 l1 m0 m1 x0 x1 x2 x3) (fun v _ => 2 - (intOf v).toNat)
        case atStart => exact ⟨0, x0, x1, x2, x3, by omega, rfl, D.out, M⟩
        case round =>
          clear D M
          obtain ⟨k, x0, x1, x2, x3, hk, rfl, D, M⟩ := hrel
          have D := Lib.hid D
          by_cases kk : k < 2
          · rcases (show k = 0 ∨ k = 1 by omega) with h | h
            · obtain rfl : k = 0 := h
              rw [show ((0 : Nat) : Int) = 0 from rfl]
              clear kk hk
              have hp := dig_prod (a := l1) (b := m0) (by omega) (by omega) (by omega) (by omega)
              have o0 := M.o.c0
              have o1 := M.o.c1
              have o2 := M.o.c2
              have o3 := M.o.c3
              have o4 := M.o.c4
              have of := M.o.f
              have q0 := M.l.c0
              have q1 := M.l.c1
              have q2 := M.m.c0
              have q3 := M.m.c1
              go_wp2
              go_quiet (fail)
              go_wp2
              go_loopw [13, 14] (fun c t wr => ∃ (tt : Nat) (y0 y1 y2 y3 cc : Int), t = .int .i64 tt ∧ c = .int .u64 cc ∧ Acc tt y0 y1 y2 y3 cc (psum l0 l1 m0 m1 1 (0 + 1)) ∧ MulS w wr s l0 l1 m0 m1 y0 y1 y2 y3) (fun _ t _ => 4 - (intOf t).toNat)
              case atStart => exact ⟨1 + 0, x0, x1, x2, x3, l1 * m0, by go_num, rfl, (by have := Acc.start (t := 1 + 0) D.out hp.1 (by omega) (by omega); simpa [psum, Int.add_assoc] using this), M.drewN _⟩
              case round =>
                clear o0 o1 o2 o3 o4 of q0 q1 q2 q3 M D
                obtain ⟨tt, y0, y1, y2, y3, cc, rfl, rfl, K, M⟩ := hrel
                have k0 := K.k0
                have k1 := K.k1
                have ya := K.a0
                have yb := K.a1
                have yc := K.b0
                have yd := K.b1
                have ye := K.c0
                have yf := K.c1
                have yg := K.d0
                have yh := K.d1
                have yt := K.t4
                by_cases c : cc = 0 ∨ tt = 4
                · have DN := Lib.hid (K.done c (PBH.out 1 (0 + 1)))
                  by_cases c4 : tt = 4
                  · subst c4
                    rw [show ((4 : Nat) : Int) = 4 from rfl]
                    clear c K
                    go_wp2
                    go_roundw
                    case rel => first | exact ⟨0 + 1, _, _, _, _, by omega, by go_num, DN.out, M⟩ | ((repeat apply Exists.intro); exact ⟨⟨0 + 1, _, _, _, _, by omega, by go_num, DN.out, M⟩, rfl⟩)
                    case measure => simp [intOf]
                  · obtain rfl : cc = 0 := by omega
                    clear c K
                    go_wp2
                    go_roundw
                    case rel => first | exact ⟨0 + 1, _, _, _, _, by omega, by go_num, DN.out, M⟩ | ((repeat apply Exists.intro); exact ⟨⟨0 + 1, _, _, _, _, by omega, by go_num, DN.out, M⟩, rfl⟩)
                    case measure => simp [intOf]
                · have c0 : 0 < cc := by omega
                  have ct : tt < 4 := by omega
                  clear c
                  rcases (show tt = 0 ∨ tt = 1 ∨ tt = 2 ∨ tt = 3 by omega) with h | h | h | h
                  · obtain rfl : tt = 0 := h
                    rw [show ((0 : Nat) : Int) = 0 from rfl]
                    clear ct
                    have ks := K.s0
                    have KS := Lib.hid ks
                    clear ks K
                    have o0 := M.o.c0
                    have o1 := M.o.c1
                    have o2 := M.o.c2
                    have o3 := M.o.c3
                    have o4 := M.o.c4
                    have of := M.o.f
                    have q0 := M.l.c0
                    have q1 := M.l.c1
                    have q2 := M.m.c0
                    have q3 := M.m.c1
                    go_wp2
                    go_quiet ((go_at_call 89; exact Calls.quiet_of_same (low_any _ _ k0 k1)))
                    go_wp2_with fail
                    refine (low_any _ _ (by omega) (by omega)).mono ?_
                    rintro e w1 ⟨rfl, rfl⟩
                    go_wp2
                    go_roundw
                    case rel => exact ⟨1, _, _, _, _, _, by go_num, rfl, KS.out, (M.drewN _).put _ _ ((M.drewN _).o.set0 _)⟩
                    case measure => simp [intOf]
                  · obtain rfl : tt = 1 := h
                    rw [show ((1 : Nat) : Int) = 1 from rfl]
                    clear ct
                    have ks := K.s1
                    have KS := Lib.hid ks
                    clear ks K
                    have o0 := M.o.c0
                    have o1 := M.o.c1
                    have o2 := M.o.c2
                    have o3 := M.o.c3
                    have o4 := M.o.c4
                    have of := M.o.f
                    have q0 := M.l.c0
                    have q1 := M.l.c1
                    have q2 := M.m.c0
                    have q3 := M.m.c1
                    go_wp2
                    go_quiet ((go_at_call 89; exact Calls.quiet_of_same (low_any _ _ k0 k1)))
                    go_wp2_with fail
                    refine (low_any _ _ (by omega) (by omega)).mono ?_
                    rintro e w1 ⟨rfl, rfl⟩
                    go_wp2
                    go_roundw
                    case rel => exact ⟨2, _, _, _, _, _, by go_num, rfl, KS.out, (M.drewN _).put _ _ ((M.drewN _).o.set1 _)⟩
                    case measure => simp [intOf]
                  · obtain rfl : tt = 2 := h
                    rw [show ((2 : Nat) : Int) = 2 from rfl]
                    clear ct
                    have ks := K.s2
                    have KS := Lib.hid ks
                    clear ks K
                    have o0 := M.o.c0
                    have o1 := M.o.c1
                    have o2 := M.o.c2
                    have o3 := M.o.c3
                    have o4 := M.o.c4
                    have of := M.o.f
                    have q0 := M.l.c0
                    have q1 := M.l.c1
                    have q2 := M.m.c0
                    have q3 := M.m.c1
                    go_wp2
                    go_quiet ((go_at_call 89; exact Calls.quiet_of_same (low_any _ _ k0 k1)))
                    go_wp2_with fail
                    refine (low_any _ _ (by omega) (by omega)).mono ?_
                    rintro e w1 ⟨rfl, rfl⟩
                    go_wp2
                    go_roundw
                    case rel => exact ⟨3, _, _, _, _, _, by go_num, rfl, KS.out, (M.drewN _).put _ _ ((M.drewN _).o.set2 _)⟩
                    case measure => simp [intOf]
                  · obtain rfl : tt = 3 := h
                    rw [show ((3 : Nat) : Int) = 3 from rfl]
                    clear ct
                    have ks := K.s3
                    have KS := Lib.hid ks
                    clear ks K
                    have o0 := M.o.c0
                    have o1 := M.o.c1
                    have o2 := M.o.c2
                    have o3 := M.o.c3
                    have o4 := M.o.c4
                    have of := M.o.f
                    have q0 := M.l.c0
                    have q1 := M.l.c1
                    have q2 := M.m.c0
                    have q3 := M.m.c1
                    go_wp2
                    go_quiet ((go_at_call 89; exact Calls.quiet_of_same (low_any _ _ k0 k1)))
                    go_wp2_with fail
                    refine (low_any _ _ (by omega) (by omega)).mono ?_
                    rintro e w1 ⟨rfl, rfl⟩
                    go_wp2
                    go_roundw
                    case rel => exact ⟨4, _, _, _, _, _, by go_num, rfl, KS.out, (M.drewN _).put _ _ ((M.drewN _).o.set3 _)⟩
                    case measure => simp [intOf]
            · obtain rfl : k = 1 := h
              rw [show ((1 : Nat) : Int) = 1 from rfl]
              clear kk hk
              have hp := dig_prod (a := l1) (b := m1) (by omega) (by omega) (by omega) (by omega)
              have o0 := M.o.c0
              have o1 := M.o.c1
              have o2 := M.o.c2
              have o3 := M.o.c3
              have o4 := M.o.c4
              have of := M.o.f
              have q0 := M.l.c0
              have q1 := M.l.c1
              have q2 := M.m.c0
              have q3 := M.m.c1
              go_wp2
              go_quiet (fail)
              go_wp2
              go_loopw [13, 14] (fun c t wr => ∃ (tt : Nat) (y0 y1 y2 y3 cc : Int), t = .int .i64 tt ∧ c = .int .u64 cc ∧ Acc tt y0 y1 y2 y3 cc (psum l0 l1 m0 m1 1 (1 + 1)) ∧ MulS w wr s l0 l1 m0 m1 y0 y1 y2 y3) (fun _ t _ => 4 - (intOf t).toNat)
              case atStart => exact ⟨1 + 1, x0, x1, x2, x3, l1 * m1, by go_num, rfl, (by have := Acc.start (t := 1 + 1) D.out hp.1 (by omega) (by omega); simpa [psum, Int.add_assoc] using this), M.drewN _⟩
              case round =>
                clear o0 o1 o2 o3 o4 of q0 q1 q2 q3 M D
                obtain ⟨tt, y0, y1, y2, y3, cc, rfl, rfl, K, M⟩ := hrel
                have k0 := K.k0
                have k1 := K.k1
                have ya := K.a0
                have yb := K.a1
                have yc := K.b0
                have yd := K.b1
                have ye := K.c0
                have yf := K.c1
                have yg := K.d0
                have yh := K.d1
                have yt := K.t4
                by_cases c : cc = 0 ∨ tt = 4
                · have DN := Lib.hid (K.done c (PBH.out 1 (1 + 1)))
                  by_cases c4 : tt = 4
                  · subst c4
                    rw [show ((4 : Nat) : Int) = 4 from rfl]
                    clear c K
                    go_wp2
                    go_roundw
                    case rel => first | exact ⟨1 + 1, _, _, _, _, by omega, by go_num, DN.out, M⟩ | ((repeat apply Exists.intro); exact ⟨⟨1 + 1, _, _, _, _, by omega, by go_num, DN.out, M⟩, rfl⟩)
                    case measure => simp [intOf]
                  · obtain rfl : cc = 0 := by omega
                    clear c K
                    go_wp2
                    go_roundw
                    case rel => first | exact ⟨1 + 1, _, _, _, _, by omega, by go_num, DN.out, M⟩ | ((repeat apply Exists.intro); exact ⟨⟨1 + 1, _, _, _, _, by omega, by go_num, DN.out, M⟩, rfl⟩)
                    case measure => simp [intOf]
                · have c0 : 0 < cc := by omega
                  have ct : tt < 4 := by omega
                  clear c
                  rcases (show tt = 0 ∨ tt = 1 ∨ tt = 2 ∨ tt = 3 by omega) with h | h | h | h
                  · obtain rfl : tt = 0 := h
                    rw [show ((0 : Nat) : Int) = 0 from rfl]
                    clear ct
                    have ks := K.s0
                    have KS := Lib.hid ks
                    clear ks K
                    have o0 := M.o.c0
                    have o1 := M.o.c1
                    have o2 := M.o.c2
                    have o3 := M.o.c3
                    have o4 := M.o.c4
                    have of := M.o.f
                    have q0 := M.l.c0
                    have q1 := M.l.c1
                    have q2 := M.m.c0
                    have q3 := M.m.c1
                    go_wp2
                    go_quiet ((go_at_call 89; exact Calls.quiet_of_same (low_any _ _ k0 k1)))
                    go_wp2_with fail
                    refine (low_any _ _ (by omega) (by omega)).mono ?_
                    rintro e w1 ⟨rfl, rfl⟩
                    go_wp2
                    go_roundw
                    case rel => exact ⟨1, _, _, _, _, _, by go_num, rfl, KS.out, (M.drewN _).put _ _ ((M.drewN _).o.set0 _)⟩
                    case measure => simp [intOf]
                  · obtain rfl : tt = 1 := h
                    rw [show ((1 : Nat) : Int) = 1 from rfl]
                    clear ct
                    have ks := K.s1
                    have KS := Lib.hid ks
                    clear ks K
                    have o0 := M.o.c0
                    have o1 := M.o.c1
                    have o2 := M.o.c2
                    have o3 := M.o.c3
                    have o4 := M.o.c4
                    have of := M.o.f
                    have q0 := M.l.c0
                    have q1 := M.l.c1
                    have q2 := M.m.c0
                    have q3 := M.m.c1
                    go_wp2
                    go_quiet ((go_at_call 89; exact Calls.quiet_of_same (low_any _ _ k0 k1)))
                    go_wp2_with fail
                    refine (low_any _ _ (by omega) (by omega)).mono ?_
                    rintro e w1 ⟨rfl, rfl⟩
                    go_wp2
                    go_roundw
                    case rel => exact ⟨2, _, _, _, _, _, by go_num, rfl, KS.out, (M.drewN _).put _ _ ((M.drewN _).o.set1 _)⟩
                    case measure => simp [intOf]
                  · obtain rfl : tt = 2 := h
                    rw [show ((2 : Nat) : Int) = 2 from rfl]
                    clear ct
                    have ks := K.s2
                    have KS := Lib.hid ks
                    clear ks K
                    have o0 := M.o.c0
                    have o1 := M.o.c1
                    have o2 := M.o.c2
                    have o3 := M.o.c3
                    have o4 := M.o.c4
                    have of := M.o.f
                    have q0 := M.l.c0
                    have q1 := M.l.c1
                    have q2 := M.m.c0
                    have q3 := M.m.c1
                    go_wp2
                    go_quiet ((go_at_call 89; exact Calls.quiet_of_same (low_any _ _ k0 k1)))
                    go_wp2_with fail
                    refine (low_any _ _ (by omega) (by omega)).mono ?_
                    rintro e w1 ⟨rfl, rfl⟩
                    go_wp2
                    go_roundw
                    case rel => exact ⟨3, _, _, _, _, _, by go_num, rfl, KS.out, (M.drewN _).put _ _ ((M.drewN _).o.set2 _)⟩
                    case measure => simp [intOf]
                  · obtain rfl : tt = 3 := h
                    rw [show ((3 : Nat) : Int) = 3 from rfl]
                    clear ct
                    have ks := K.s3
                    have KS := Lib.hid ks
                    clear ks K
                    have o0 := M.o.c0
                    have o1 := M.o.c1
                    have o2 := M.o.c2
                    have o3 := M.o.c3
                    have o4 := M.o.c4
                    have of := M.o.f
                    have q0 := M.l.c0
                    have q1 := M.l.c1
                    have q2 := M.m.c0
                    have q3 := M.m.c1
                    go_wp2
                    go_quiet ((go_at_call 89; exact Calls.quiet_of_same (low_any _ _ k0 k1)))
                    go_wp2_with fail
                    refine (low_any _ _ (by omega) (by omega)).mono ?_
                    rintro e w1 ⟨rfl, rfl⟩
                    go_wp2
                    go_roundw
                    case rel => exact ⟨4, _, _, _, _, _, by go_num, rfl, KS.out, (M.drewN _).put _ _ ((M.drewN _).o.set3 _)⟩
                    case measure => simp [intOf]
          · obtain rfl : k = 2 := by omega
            rw [show ((2 : Nat) : Int) = 2 from rfl]
            clear kk hk
            go_wp2
            go_roundw
            case rel => first | exact ⟨1 + 1, x0, x1, x2, x3, by omega, by go_num, by have := D.out; simpa [psum] using this, M⟩ | ((repeat apply Exists.intro); exact ⟨⟨1 + 1, x0, x1, x2, x3, by omega, by go_num, by have := D.out; simpa [psum] using this, M⟩, rfl⟩)
            case measure => simp [intOf]
    · obtain rfl : i = 2 := by omega
      rw [show ((2 : Nat) : Int) = 2 from rfl]
      clear ii hi
      have A := mul_abs a b
      have D2 : IsD x0 x1 x2 x3 (a * b).natAbs := by
        have := D.out
        rw [psum_all, EL.out, EM.out, ← EX.out, ← EY.out, ← A] at this
        exact this
      have R := D2.range
      have SG := Lib.hid (mul_sgn a b)
      obtain ⟨rfl, rfl, rfl, rfl⟩ := D2.eqs
      clear D D2 A
      have o0 := M.o.c0
      have o1 := M.o.c1
      have o2 := M.o.c2
      have o3 := M.o.c3
      have o4 := M.o.c4
      have of := M.o.f
      have q0 := M.l.c0
      have q1 := M.l.c1
      have q2 := M.m.c0
      have q3 := M.m.c1
      by_cases z : (a * b).natAbs = 0
      · have z2 : decide (((a * b).natAbs : Int) = 0) = true := by rw [decide_eq_true_iff]; omega
        have SZ := Lib.hid (show decide (a * b < 0) = false by rw [decide_eq_false_iff_not]; omega)
        clear z
        go_wp2_with fail
        refine (Zero_any _ _ _ R.1 R.2).mono ?_
        rw [z2]
        rintro e w1 ⟨rfl, hb1⟩
        have M1 := M.below hb1
        have HB1 := Lib.hid M1.b
        have p0 := M1.o.c0
        have p1 := M1.o.c1
        have p2 := M1.o.c2
        have p3 := M1.o.c3
        have p4 := M1.o.c4
        have pf := M1.o.f
        obtain ⟨rf, ⟨v0, t0⟩, ⟨v1, t1⟩, ⟨v2, t2⟩, ⟨v3, t3⟩, ⟨v4, t4⟩⟩ := M1.r
        have ne1 : w.heap.size + 1 + 1 + 1 ≠ w.heap.size := by omega
        have ne2 : w.heap.size ≠ w.heap.size + 1 + 1 + 1 := by omega
        go_wp2
        refine bodyPost_ret (v := .agg #[.bool (false), .int .u64 (d0 ((a * b).natAbs)), .int .u64 (d1 ((a * b).natAbs)), .int .u64 (d2 ((a * b).natAbs)), .int .u64 (d3 ((a * b).natAbs))]) ?_ rfl ?_
        · simp [results, Try.results64, go_sem, t0, t1, t2, t3, t4]
        · refine ⟨by rw [SZ.out], ?_⟩
          repeat (refine Below.setCell ?_ (by first | exact Nat.le_refl _ | (show w.heap.size ≤ w.heap.size + 1 + 1 + 1; omega)) _)
          exact HB1.out
      · have z2 : decide (((a * b).natAbs : Int) = 0) = false := by rw [decide_eq_false_iff_not]; omega
        have SZ := Lib.hid (show decide (a * b < 0) = s by rw [← ES.out]; exact SG.out (by omega))
        clear z
        go_wp2_with fail
        refine (Zero_any _ _ _ R.1 R.2).mono ?_
        rw [z2]
        rintro e w1 ⟨rfl, hb1⟩
        have M1 := M.below hb1
        have HB1 := Lib.hid M1.b
        have p0 := M1.o.c0
        have p1 := M1.o.c1
        have p2 := M1.o.c2
        have p3 := M1.o.c3
        have p4 := M1.o.c4
        have pf := M1.o.f
        obtain ⟨rf, ⟨v0, t0⟩, ⟨v1, t1⟩, ⟨v2, t2⟩, ⟨v3, t3⟩, ⟨v4, t4⟩⟩ := M1.r
        have ne1 : w.heap.size + 1 + 1 + 1 ≠ w.heap.size := by omega
        have ne2 : w.heap.size ≠ w.heap.size + 1 + 1 + 1 := by omega
        go_wp2
        refine bodyPost_ret (v := .agg #[.bool (s), .int .u64 (d0 ((a * b).natAbs)), .int .u64 (d1 ((a * b).natAbs)), .int .u64 (d2 ((a * b).natAbs)), .int .u64 (d3 ((a * b).natAbs))]) ?_ rfl ?_
        · simp [results, Try.results64, go_sem, t0, t1, t2, t3, t4]
        · refine ⟨by rw [SZ.out], ?_⟩
          repeat (refine Below.setCell ?_ (by first | exact Nat.le_refl _ | (show w.heap.size ≤ w.heap.size + 1 + 1 + 1; omega)) _)
          exact HB1.out
end Go.Proofs.Ytllkhgcokbpggaa
namespace Go.Proofs.Ytllkhgcokbpggaa
open Go.RowKit

/-- all that the loops know of memory -/
structure SqS (w wr : World) (l0 l1 x0 x1 x2 x3 : Int) : Prop where
  o : CellQ wr (w.heap.size + 1 + 1) x0 x1 x2 x3
  l : CellL wr (w.heap.size + 1) l0 l1
  z : w.heap.size + 1 + 1 < wr.heap.size
  r : (∀ j, wr.frozen? ⟨w.heap.size, j, none⟩ = false) ∧ (∃ v, wr.cell? ⟨w.heap.size, 0, none⟩ = some v) ∧ (∃ v, wr.cell? ⟨w.heap.size, 1, none⟩ = some v) ∧ (∃ v, wr.cell? ⟨w.heap.size, 2, none⟩ = some v) ∧ (∃ v, wr.cell? ⟨w.heap.size, 3, none⟩ = some v)
  b : Below w.heap.size w wr
theorem sqS_start (w : World) (l0 l1 : Int) (t u : TypeId) :
    SqS w (((w.alloc (.cells #[.int .u64 0, .int .u64 0, .int .u64 0, .int .u64 0] t)).alloc (.cells #[.int .u64 l0, .int .u64 l1] u)).alloc (.cells #[.int .u64 0, .int .u64 0, .int .u64 0, .int .u64 0] t)) l0 l1 0 0 0 0 :=
  ⟨⟨by go_simp, by go_simp, by go_simp, by go_simp, fun j => by go_simp⟩, ⟨by go_simp, by go_simp⟩, by simp,
    ⟨fun j => by go_simp, ⟨.int .u64 0, by go_simp⟩, ⟨.int .u64 0, by go_simp⟩, ⟨.int .u64 0, by go_simp⟩, ⟨.int .u64 0, by go_simp⟩⟩, by repeat (first | exact Below.refl _ _ | assumption | refine Below.setCell ?_ (by first | omega | (simp; done) | (simp; omega)) _ | refine Below.alloc ?_ (by first | omega | (simp; done) | (simp; omega)) _ | refine below_drewN ?_ _ | refine Below.drew ?_ | refine Below.trans ?_ (Below.mono (by assumption) (by first | omega | (simp; done) | (simp; omega))))⟩
theorem SqS.drewN {w wr : World} {l0 l1 x0 x1 x2 x3 : Int} (k : SqS w wr l0 l1 x0 x1 x2 x3) (q : Nat) : SqS w (wr.drewN q) l0 l1 x0 x1 x2 x3 :=
  ⟨k.o.drewN q, k.l.drewN q, k.z, k.r, below_drewN k.b q⟩
theorem SqS.put {w wr : World} {l0 l1 x0 x1 x2 x3 y0 y1 y2 y3 : Int} (k : SqS w wr l0 l1 x0 x1 x2 x3) (i : Nat) (v : Value) (o : CellQ (wr.setCell ⟨w.heap.size + 1 + 1, i, none⟩ v) (w.heap.size + 1 + 1) y0 y1 y2 y3) :
    SqS w (wr.setCell ⟨w.heap.size + 1 + 1, i, none⟩ v) l0 l1 y0 y1 y2 y3 :=
  ⟨o, k.l.far (by omega) _ _, by have := k.z; simpa [World.setCell] using this,
    ⟨fun j => (World.frozen?_setCell _ _ _ _).trans (k.r.1 j), far_some (by omega) k.r.2.1, far_some (by omega) k.r.2.2.1, far_some (by omega) k.r.2.2.2.1, far_some (by omega) k.r.2.2.2.2⟩, k.b.setCell (by simp; omega) _⟩
set_option maxHeartbeats 8000000 in
set_option maxRecDepth 100000 in
theorem square_any (X : Int) (w : World) (X0 : 0 ≤ X) (X1 : X ≤ 18446744073709551615) :
    Calls Try.prog 90 #[.int .u64 X] w fun e w' => e = .returned (.agg #[.int .u64 (d0 (X * X)), .int .u64 (d1 (X * X)), .int .u64 (d2 (X * X)), .int .u64 (d3 (X * X))]) ∧ Below w.heap.size w w' := by
  obtain ⟨l0, el0⟩ : ∃ l0, X % 4294967296 = l0 := ⟨_, rfl⟩
  obtain ⟨l1, el1⟩ : ∃ l1, X / 4294967296 = l1 := ⟨_, rfl⟩
  have l00 : 0 ≤ l0 := by omega
  have l01 : l0 ≤ 4294967295 := by omega
  have l10 : 0 ≤ l1 := by omega
  have l11 : l1 ≤ 4294967295 := by omega
  have EL := Lib.hid (show l0 + l1 * 4294967296 = X by omega)
  go_enter Try.func90, Try.ntmps90
  go_wp2_with fail
  refine (low_any _ _ X0 X1).mono ?_
  rintro e w1 ⟨rfl, rfl⟩
  go_wp2
  have PB : ∀ i k : Nat, psum l0 l1 l0 l1 i k < 340282366920938463463374607431768211456 := by
    intro i k
    have p00 := dig_prod l00 l01 l00 l01
    have p01 := dig_prod l00 l01 l10 l11
    have p10 := dig_prod l10 l11 l00 l01
    have p11 := dig_prod l10 l11 l10 l11
    unfold psum
    split <;> split <;> split <;> split <;> omega
  have PBH := Lib.hid PB
  try rw [el1]
  clear PB el0 el1
  go_loopw [5] (fun v wr => ∃ (i : Nat) (x0 x1 x2 x3 : Int), i ≤ 2 ∧ v = .int .i64 i ∧ IsD x0 x1 x2 x3 (psum l0 l1 l0 l1 i 0) ∧ SqS w wr l0 l1 x0 x1 x2 x3) (fun v _ => 2 - (intOf v).toNat)
  case atStart => exact ⟨0, 0, 0, 0, 0, by omega, rfl, by simpa [psum] using isD_zero, sqS_start w l0 l1 _ _⟩
  case round =>
    obtain ⟨i, x0, x1, x2, x3, hi, rfl, D, M⟩ := hrel
    have D := Lib.hid D
    by_cases ii : i < 2
    · rcases (show i = 0 ∨ i = 1 by omega) with h | h
      · obtain rfl : i = 0 := h
        rw [show ((0 : Nat) : Int) = 0 from rfl]
        clear ii hi
        go_wp2
        go_loopw [6] (fun v wr => ∃ (k : Nat) (x0 x1 x2 x3 : Int), k ≤ 2 ∧ v = .int .i64 k ∧ IsD x0 x1 x2 x3 (psum l0 l1 l0 l1 0 k) ∧ SqS w wr l0 l1 x0 x1 x2 x3) (fun v _ => 2 - (intOf v).toNat)
        case atStart => exact ⟨0, x0, x1, x2, x3, by omega, rfl, D.out, M⟩
        case round =>
          clear D M
          obtain ⟨k, x0, x1, x2, x3, hk, rfl, D, M⟩ := hrel
          have D := Lib.hid D
          by_cases kk : k < 2
          · rcases (show k = 0 ∨ k = 1 by omega) with h | h
            · obtain rfl : k = 0 := h
              rw [show ((0 : Nat) : Int) = 0 from rfl]
              clear kk hk
              have hp := dig_prod (a := l0) (b := l0) (by omega) (by omega) (by omega) (by omega)
              have o0 := M.o.c0
              have o1 := M.o.c1
              have o2 := M.o.c2
              have o3 := M.o.c3
              have of := M.o.f
              have q0 := M.l.c0
              have q1 := M.l.c1
              go_wp2
              go_quiet (fail)
              go_wp2
              go_loopw [7, 8] (fun c t wr => ∃ (tt : Nat) (y0 y1 y2 y3 cc : Int), t = .int .i64 tt ∧ c = .int .u64 cc ∧ Acc tt y0 y1 y2 y3 cc (psum l0 l1 l0 l1 0 (0 + 1)) ∧ SqS w wr l0 l1 y0 y1 y2 y3) (fun _ t _ => 4 - (intOf t).toNat)
              case atStart => exact ⟨0 + 0, x0, x1, x2, x3, l0 * l0, by go_num, rfl, (by have := Acc.start (t := 0 + 0) D.out hp.1 (by omega) (by omega); simpa [psum, Int.add_assoc] using this), M.drewN _⟩
              case round =>
                clear o0 o1 o2 o3 of q0 q1 M D
                obtain ⟨tt, y0, y1, y2, y3, cc, rfl, rfl, K, M⟩ := hrel
                have k0 := K.k0
                have k1 := K.k1
                have ya := K.a0
                have yb := K.a1
                have yc := K.b0
                have yd := K.b1
                have ye := K.c0
                have yf := K.c1
                have yg := K.d0
                have yh := K.d1
                have yt := K.t4
                by_cases c : cc = 0 ∨ tt = 4
                · have DN := Lib.hid (K.done c (PBH.out 0 (0 + 1)))
                  by_cases c4 : tt = 4
                  · subst c4
                    rw [show ((4 : Nat) : Int) = 4 from rfl]
                    clear c K
                    go_wp2
                    go_roundw
                    case rel => first | exact ⟨0 + 1, _, _, _, _, by omega, by go_num, DN.out, M⟩ | ((repeat apply Exists.intro); exact ⟨⟨0 + 1, _, _, _, _, by omega, by go_num, DN.out, M⟩, rfl⟩)
                    case measure => simp [intOf]
                  · obtain rfl : cc = 0 := by omega
                    clear c K
                    go_wp2
                    go_roundw
                    case rel => first | exact ⟨0 + 1, _, _, _, _, by omega, by go_num, DN.out, M⟩ | ((repeat apply Exists.intro); exact ⟨⟨0 + 1, _, _, _, _, by omega, by go_num, DN.out, M⟩, rfl⟩)
                    case measure => simp [intOf]
                · have c0 : 0 < cc := by omega
                  have ct : tt < 4 := by omega
                  clear c
                  rcases (show tt = 0 ∨ tt = 1 ∨ tt = 2 ∨ tt = 3 by omega) with h | h | h | h
                  · obtain rfl : tt = 0 := h
                    rw [show ((0 : Nat) : Int) = 0 from rfl]
                    clear ct
                    have ks := K.s0
                    have KS := Lib.hid ks
                    clear ks K
                    have o0 := M.o.c0
                    have o1 := M.o.c1
                    have o2 := M.o.c2
                    have o3 := M.o.c3
                    have of := M.o.f
                    have q0 := M.l.c0
                    have q1 := M.l.c1
                    go_wp2
                    go_quiet ((go_at_call 89; exact Calls.quiet_of_same (low_any _ _ k0 k1)))
                    go_wp2_with fail
                    refine (low_any _ _ (by omega) (by omega)).mono ?_
                    rintro e w1 ⟨rfl, rfl⟩
                    go_wp2
                    go_roundw
                    case rel => exact ⟨1, _, _, _, _, _, by go_num, rfl, KS.out, (M.drewN _).put _ _ ((M.drewN _).o.set0 _)⟩
                    case measure => simp [intOf]
                  · obtain rfl : tt = 1 := h
                    rw [show ((1 : Nat) : Int) = 1 from rfl]
                    clear ct
                    have ks := K.s1
                    have KS := Lib.hid ks
                    clear ks K
                    have o0 := M.o.c0
                    have o1 := M.o.c1
                    have o2 := M.o.c2
                    have o3 := M.o.c3
                    have of := M.o.f
                    have q0 := M.l.c0
                    have q1 := M.l.c1
                    go_wp2
                    go_quiet ((go_at_call 89; exact Calls.quiet_of_same (low_any _ _ k0 k1)))
                    go_wp2_with fail
                    refine (low_any _ _ (by omega) (by omega)).mono ?_
                    rintro e w1 ⟨rfl, rfl⟩
                    go_wp2
                    go_roundw
                    case rel => exact ⟨2, _, _, _, _, _, by go_num, rfl, KS.out, (M.drewN _).put _ _ ((M.drewN _).o.set1 _)⟩
                    case measure => simp [intOf]
                  · obtain rfl : tt = 2 := h
                    rw [show ((2 : Nat) : Int) = 2 from rfl]
                    clear ct
                    have ks := K.s2
                    have KS := Lib.hid ks
                    clear ks K
                    have o0 := M.o.c0
                    have o1 := M.o.c1
                    have o2 := M.o.c2
                    have o3 := M.o.c3
                    have of := M.o.f
                    have q0 := M.l.c0
                    have q1 := M.l.c1
                    go_wp2
                    go_quiet ((go_at_call 89; exact Calls.quiet_of_same (low_any _ _ k0 k1)))
                    go_wp2_with fail
                    refine (low_any _ _ (by omega) (by omega)).mono ?_
                    rintro e w1 ⟨rfl, rfl⟩
                    go_wp2
                    go_roundw
                    case rel => exact ⟨3, _, _, _, _, _, by go_num, rfl, KS.out, (M.drewN _).put _ _ ((M.drewN _).o.set2 _)⟩
                    case measure => simp [intOf]
                  · obtain rfl : tt = 3 := h
                    rw [show ((3 : Nat) : Int) = 3 from rfl]
                    clear ct
                    have ks := K.s3
                    have KS := Lib.hid ks
                    clear ks K
                    have o0 := M.o.c0
                    have o1 := M.o.c1
                    have o2 := M.o.c2
                    have o3 := M.o.c3
                    have of := M.o.f
                    have q0 := M.l.c0
                    have q1 := M.l.c1
                    go_wp2
                    go_quiet ((go_at_call 89; exact Calls.quiet_of_same (low_any _ _ k0 k1)))
                    go_wp2_with fail
                    refine (low_any _ _ (by omega) (by omega)).mono ?_
                    rintro e w1 ⟨rfl, rfl⟩
                    go_wp2
                    go_roundw
                    case rel => exact ⟨4, _, _, _, _, _, by go_num, rfl, KS.out, (M.drewN _).put _ _ ((M.drewN _).o.set3 _)⟩
                    case measure => simp [intOf]
            · obtain rfl : k = 1 := h
              rw [show ((1 : Nat) : Int) = 1 from rfl]
              clear kk hk
              have hp := dig_prod (a := l0) (b := l1) (by omega) (by omega) (by omega) (by omega)
              have o0 := M.o.c0
              have o1 := M.o.c1
              have o2 := M.o.c2
              have o3 := M.o.c3
              have of := M.o.f
              have q0 := M.l.c0
              have q1 := M.l.c1
              go_wp2
              go_quiet (fail)
              go_wp2
              go_loopw [7, 8] (fun c t wr => ∃ (tt : Nat) (y0 y1 y2 y3 cc : Int), t = .int .i64 tt ∧ c = .int .u64 cc ∧ Acc tt y0 y1 y2 y3 cc (psum l0 l1 l0 l1 0 (1 + 1)) ∧ SqS w wr l0 l1 y0 y1 y2 y3) (fun _ t _ => 4 - (intOf t).toNat)
              case atStart => exact ⟨0 + 1, x0, x1, x2, x3, l0 * l1, by go_num, rfl, (by have := Acc.start (t := 0 + 1) D.out hp.1 (by omega) (by omega); simpa [psum, Int.add_assoc] using this), M.drewN _⟩
              case round =>
                clear o0 o1 o2 o3 of q0 q1 M D
                obtain ⟨tt, y0, y1, y2, y3, cc, rfl, rfl, K, M⟩ := hrel
                have k0 := K.k0
                have k1 := K.k1
                have ya := K.a0
                have yb := K.a1
                have yc := K.b0
                have yd := K.b1
                have ye := K.c0
                have yf := K.c1
                have yg := K.d0
                have yh := K.d1
                have yt := K.t4
                by_cases c : cc = 0 ∨ tt = 4
                · have DN := Lib.hid (K.done c (PBH.out 0 (1 + 1)))
                  by_cases c4 : tt = 4
                  · subst c4
                    rw [show ((4 : Nat) : Int) = 4 from rfl]
                    clear c K
                    go_wp2
                    go_roundw
                    case rel => first | exact ⟨1 + 1, _, _, _, _, by omega, by go_num, DN.out, M⟩ | ((repeat apply Exists.intro); exact ⟨⟨1 + 1, _, _, _, _, by omega, by go_num, DN.out, M⟩, rfl⟩)
                    case measure => simp [intOf]
                  · obtain rfl : cc = 0 := by omega
                    clear c K
                    go_wp2
                    go_roundw
                    case rel => first | exact ⟨1 + 1, _, _, _, _, by omega, by go_num, DN.out, M⟩ | ((repeat apply Exists.intro); exact ⟨⟨1 + 1, _, _, _, _, by omega, by go_num, DN.out, M⟩, rfl⟩)
                    case measure => simp [intOf]
                · have c0 : 0 < cc := by omega
                  have ct : tt < 4 := by omega
                  clear c
                  rcases (show tt = 0 ∨ tt = 1 ∨ tt = 2 ∨ tt = 3 by omega) with h | h | h | h
                  · obtain rfl : tt = 0 := h
                    rw [show ((0 : Nat) : Int) = 0 from rfl]
                    clear ct
                    have ks := K.s0
                    have KS := Lib.hid ks
                    clear ks K
                    have o0 := M.o.c0
                    have o1 := M.o.c1
                    have o2 := M.o.c2
                    have o3 := M.o.c3
                    have of := M.o.f
                    have q0 := M.l.c0
                    have q1 := M.l.c1
                    go_wp2
                    go_quiet ((go_at_call 89; exact Calls.quiet_of_same (low_any _ _ k0 k1)))
                    go_wp2_with fail
                    refine (low_any _ _ (by omega) (by omega)).mono ?_
                    rintro e w1 ⟨rfl, rfl⟩
                    go_wp2
                    go_roundw
                    case rel => exact ⟨1, _, _, _, _, _, by go_num, rfl, KS.out, (M.drewN _).put _ _ ((M.drewN _).o.set0 _)⟩
                    case measure => simp [intOf]
                  · obtain rfl : tt = 1 := h
                    rw [show ((1 : Nat) : Int) = 1 from rfl]
                    clear ct
                    have ks := K.s1
                    have KS := Lib.hid ks
                    clear ks K
                    have o0 := M.o.c0
                    have o1 := M.o.c1
                    have o2 := M.o.c2
                    have o3 := M.o.c3
                    have of := M.o.f
                    have q0 := M.l.c0
                    have q1 := M.l.c1
                    go_wp2
                    go_quiet ((go_at_call 89; exact Calls.quiet_of_same (low_any _ _ k0 k1)))
                    go_wp2_with fail
                    refine (low_any _ _ (by omega) (by omega)).mono ?_
                    rintro e w1 ⟨rfl, rfl⟩
                    go_wp2
                    go_roundw
                    case rel => exact ⟨2, _, _, _, _, _, by go_num, rfl, KS.out, (M.drewN _).put _ _ ((M.drewN _).o.set1 _)⟩
                    case measure => simp [intOf]
                  · obtain rfl : tt = 2 := h
                    rw [show ((2 : Nat) : Int) = 2 from rfl]
                    clear ct
                    have ks := K.s2
                    have KS := Lib.hid ks
                    clear ks K
                    have o0 := M.o.c0
                    have o1 := M.o.c1
                    have o2 := M.o.c2
                    have o3 := M.o.c3
                    have of := M.o.f
                    have q0 := M.l.c0
                    have q1 := M.l.c1
                    go_wp2
                    go_quiet ((go_at_call 89; exact Calls.quiet_of_same (low_any _ _ k0 k1)))
                    go_wp2_with fail
                    refine (low_any _ _ (by omega) (by omega)).mono ?_
                    rintro e w1 ⟨rfl, rfl⟩
                    go_wp2
                    go_roundw
                    case rel => exact ⟨3, _, _, _, _, _, by go_num, rfl, KS.out, (M.drewN _).put _ _ ((M.drewN _).o.set2 _)⟩
                    case measure => simp [intOf]
                  · obtain rfl : tt = 3 := h
                    rw [show ((3 : Nat) : Int) = 3 from rfl]
                    clear ct
                    have ks := K.s3
                    have KS := Lib.hid ks
                    clear ks K
                    have o0 := M.o.c0
                    have o1 := M.o.c1
                    have o2 := M.o.c2
                    have o3 := M.o.c3
                    have of := M.o.f
                    have q0 := M.l.c0
                    have q1 := M.l.c1
                    go_wp2
                    go_quiet ((go_at_call 89; exact Calls.quiet_of_same (low_any _ _ k0 k1)))
                    go_wp2_with fail
                    refine (low_any _ _ (by omega) (by omega)).mono ?_
                    rintro e w1 ⟨rfl, rfl⟩
                    go_wp2
                    go_roundw
                    case rel => exact ⟨4, _, _, _, _, _, by go_num, rfl, KS.out, (M.drewN _).put _ _ ((M.drewN _).o.set3 _)⟩
                    case measure => simp [intOf]
          · obtain rfl : k = 2 := by omega
            rw [show ((2 : Nat) : Int) = 2 from rfl]
            clear kk hk
            go_wp2
            go_roundw
            case rel => first | exact ⟨0 + 1, x0, x1, x2, x3, by omega, by go_num, by have := D.out; simpa [psum] using this, M⟩ | ((repeat apply Exists.intro); exact ⟨⟨0 + 1, x0, x1, x2, x3, by omega, by go_num, by have := D.out; simpa [psum] using this, M⟩, rfl⟩)
            case measure => simp [intOf]
      · obtain rfl : i = 1 := h
        rw [show ((1 : Nat) : Int) = 1 from rfl]
        clear ii hi
        go_wp2
        go_loopw [6] (fun v wr => ∃ (k : Nat) (x0 x1 x2 x3 : Int), k ≤ 2 ∧ v = .int .i64 k ∧ IsD x0 x1 x2 x3 (psum l0 l1 l0 l1 1 k) ∧ SqS w wr l0 l1 x0 x1 x2 x3) (fun v _ => 2 - (intOf v).toNat)
        case atStart => exact ⟨0, x0, x1, x2, x3, by omega, rfl, D.out, M⟩
        case round =>
          clear D M
          obtain ⟨k, x0, x1, x2, x3, hk, rfl, D, M⟩ := hrel
          have D := Lib.hid D
          by_cases kk : k < 2
          · rcases (show k = 0 ∨ k = 1 by omega) with h | h
            · obtain rfl : k = 0 := h
              rw [show ((0 : Nat) : Int) = 0 from rfl]
              clear kk hk
              have hp := dig_prod (a := l1) (b := l0) (by omega) (by omega) (by omega) (by omega)
              have o0 := M.o.c0
              have o1 := M.o.c1
              have o2 := M.o.c2
              have o3 := M.o.c3
              have of := M.o.f
              have q0 := M.l.c0
              have q1 := M.l.c1
              go_wp2
              go_quiet (fail)
              go_wp2
              go_loopw [7, 8] (fun c t wr => ∃ (tt : Nat) (y0 y1 y2 y3 cc : Int), t = .int .i64 tt ∧ c = .int .u64 cc ∧ Acc tt y0 y1 y2 y3 cc (psum l0 l1 l0 l1 1 (0 + 1)) ∧ SqS w wr l0 l1 y0 y1 y2 y3) (fun _ t _ => 4 - (intOf t).toNat)
              case atStart => exact ⟨1 + 0, x0, x1, x2, x3, l1 * l0, by go_num, rfl, (by have := Acc.start (t := 1 + 0) D.out hp.1 (by omega) (by omega); simpa [psum, Int.add_assoc] using this), M.drewN _⟩
              case round =>
                clear o0 o1 o2 o3 of q0 q1 M D
                obtain ⟨tt, y0, y1, y2, y3, cc, rfl, rfl, K, M⟩ := hrel
                have k0 := K.k0
                have k1 := K.k1
                have ya := K.a0
                have yb := K.a1
                have yc := K.b0
                have yd := K.b1
                have ye := K.c0
                have yf := K.c1
                have yg := K.d0
                have yh := K.d1
                have yt := K.t4
                by_cases c : cc = 0 ∨ tt = 4
                · have DN := Lib.hid (K.done c (PBH.out 1 (0 + 1)))
                  by_cases c4 : tt = 4
                  · subst c4
                    rw [show ((4 : Nat) : Int) = 4 from rfl]
                    clear c K
                    go_wp2
                    go_roundw
                    case rel => first | exact ⟨0 + 1, _, _, _, _, by omega, by go_num, DN.out, M⟩ | ((repeat apply Exists.intro); exact ⟨⟨0 + 1, _, _, _, _, by omega, by go_num, DN.out, M⟩, rfl⟩)
                    case measure => simp [intOf]
                  · obtain rfl : cc = 0 := by omega
                    clear c K
                    go_wp2
                    go_roundw
                    case rel => first | exact ⟨0 + 1, _, _, _, _, by omega, by go_num, DN.out, M⟩ | ((repeat apply Exists.intro); exact ⟨⟨0 + 1, _, _, _, _, by omega, by go_num, DN.out, M⟩, rfl⟩)
                    case measure => simp [intOf]
                · have c0 : 0 < cc := by omega
                  have ct : tt < 4 := by omega
                  clear c
                  rcases (show tt = 0 ∨ tt = 1 ∨ tt = 2 ∨ tt = 3 by omega) with h | h | h | h
                  · obtain rfl : tt = 0 := h
                    rw [show ((0 : Nat) : Int) = 0 from rfl]
                    clear ct
                    have ks := K.s0
                    have KS := Lib.hid ks
                    clear ks K
                    have o0 := M.o.c0
                    have o1 := M.o.c1
                    have o2 := M.o.c2
                    have o3 := M.o.c3
                    have of := M.o.f
                    have q0 := M.l.c0
                    have q1 := M.l.c1
                    go_wp2
                    go_quiet ((go_at_call 89; exact Calls.quiet_of_same (low_any _ _ k0 k1)))
                    go_wp2_with fail
                    refine (low_any _ _ (by omega) (by omega)).mono ?_
                    rintro e w1 ⟨rfl, rfl⟩
                    go_wp2
                    go_roundw
                    case rel => exact ⟨1, _, _, _, _, _, by go_num, rfl, KS.out, (M.drewN _).put _ _ ((M.drewN _).o.set0 _)⟩
                    case measure => simp [intOf]
                  · obtain rfl : tt = 1 := h
                    rw [show ((1 : Nat) : Int) = 1 from rfl]
                    clear ct
                    have ks := K.s1
                    have KS := Lib.hid ks
                    clear ks K
                    have o0 := M.o.c0
                    have o1 := M.o.c1
                    have o2 := M.o.c2
                    have o3 := M.o.c3
                    have of := M.o.f
                    have q0 := M.l.c0
                    have q1 := M.l.c1
                    go_wp2
                    go_quiet ((go_at_call 89; exact Calls.quiet_of_same (low_any _ _ k0 k1)))
                    go_wp2_with fail
                    refine (low_any _ _ (by omega) (by omega)).mono ?_
                    rintro e w1 ⟨rfl, rfl⟩
                    go_wp2
                    go_roundw
                    case rel => exact ⟨2, _, _, _, _, _, by go_num, rfl, KS.out, (M.drewN _).put _ _ ((M.drewN _).o.set1 _)⟩
                    case measure => simp [intOf]
                  · obtain rfl : tt = 2 := h
                    rw [show ((2 : Nat) : Int) = 2 from rfl]
                    clear ct
                    have ks := K.s2
                    have KS := Lib.hid ks
                    clear ks K
                    have o0 := M.o.c0
                    have o1 := M.o.c1
                    have o2 := M.o.c2
                    have o3 := M.o.c3
                    have of := M.o.f
                    have q0 := M.l.c0
                    have q1 := M.l.c1
                    go_wp2
                    go_quiet ((go_at_call 89; exact Calls.quiet_of_same (low_any _ _ k0 k1)))
                    go_wp2_with fail
                    refine (low_any _ _ (by omega) (by omega)).mono ?_
                    rintro e w1 ⟨rfl, rfl⟩
                    go_wp2
                    go_roundw
                    case rel => exact ⟨3, _, _, _, _, _, by go_num, rfl, KS.out, (M.drewN _).put _ _ ((M.drewN _).o.set2 _)⟩
                    case measure => simp [intOf]
                  · obtain rfl : tt = 3 := h
                    rw [show ((3 : Nat) : Int) = 3 from rfl]
                    clear ct
                    have ks := K.s3
                    have KS := Lib.hid ks
                    clear ks K
                    have o0 := M.o.c0
                    have o1 := M.o.c1
                    have o2 := M.o.c2
                    have o3 := M.o.c3
                    have of := M.o.f
                    have q0 := M.l.c0
                    have q1 := M.l.c1
                    go_wp2
                    go_quiet ((go_at_call 89; exact Calls.quiet_of_same (low_any _ _ k0 k1)))
                    go_wp2_with fail
                    refine (low_any _ _ (by omega) (by omega)).mono ?_
                    rintro e w1 ⟨rfl, rfl⟩
                    go_wp2
                    go_roundw
                    case rel => exact ⟨4, _, _, _, _, _, by go_num, rfl, KS.out, (M.drewN _).put _ _ ((M.drewN _).o.set3 _)⟩
                    case measure => simp [intOf]
            · obtain rfl : k = 1 := h
              rw [show ((1 : Nat) : Int) = 1 from rfl]
              clear kk hk
              have hp := dig_prod (a := l1) (b := l1) (by omega) (by omega) (by omega) (by omega)
              have o0 := M.o.c0
              have o1 := M.o.c1
              have o2 := M.o.c2
              have o3 := M.o.c3
              have of := M.o.f
              have q0 := M.l.c0
              have q1 := M.l.c1
              go_wp2
              go_quiet (fail)
              go_wp2
              go_loopw [7, 8] (fun c t wr => ∃ (tt : Nat) (y0 y1 y2 y3 cc : Int), t = .int .i64 tt ∧ c = .int .u64 cc ∧ Acc tt y0 y1 y2 y3 cc (psum l0 l1 l0 l1 1 (1 + 1)) ∧ SqS w wr l0 l1 y0 y1 y2 y3) (fun _ t _ => 4 - (intOf t).toNat)
              case atStart => exact ⟨1 + 1, x0, x1, x2, x3, l1 * l1, by go_num, rfl, (by have := Acc.start (t := 1 + 1) D.out hp.1 (by omega) (by omega); simpa [psum, Int.add_assoc] using this), M.drewN _⟩
              case round =>
                clear o0 o1 o2 o3 of q0 q1 M D
                obtain ⟨tt, y0, y1, y2, y3, cc, rfl, rfl, K, M⟩ := hrel
                have k0 := K.k0
                have k1 := K.k1
                have ya := K.a0
                have yb := K.a1
                have yc := K.b0
                have yd := K.b1
                have ye := K.c0
                have yf := K.c1
                have yg := K.d0
                have yh := K.d1
                have yt := K.t4
                by_cases c : cc = 0 ∨ tt = 4
                · have DN := Lib.hid (K.done c (PBH.out 1 (1 + 1)))
                  by_cases c4 : tt = 4
                  · subst c4
                    rw [show ((4 : Nat) : Int) = 4 from rfl]
                    clear c K
                    go_wp2
                    go_roundw
                    case rel => first | exact ⟨1 + 1, _, _, _, _, by omega, by go_num, DN.out, M⟩ | ((repeat apply Exists.intro); exact ⟨⟨1 + 1, _, _, _, _, by omega, by go_num, DN.out, M⟩, rfl⟩)
                    case measure => simp [intOf]
                  · obtain rfl : cc = 0 := by omega
                    clear c K
                    go_wp2
                    go_roundw
                    case rel => first | exact ⟨1 + 1, _, _, _, _, by omega, by go_num, DN.out, M⟩ | ((repeat apply Exists.intro); exact ⟨⟨1 + 1, _, _, _, _, by omega, by go_num, DN.out, M⟩, rfl⟩)
                    case measure => simp [intOf]
                · have c0 : 0 < cc := by omega
                  have ct : tt < 4 := by omega
                  clear c
                  rcases (show tt = 0 ∨ tt = 1 ∨ tt = 2 ∨ tt = 3 by omega) with h | h | h | h
                  · obtain rfl : tt = 0 := h
                    rw [show ((0 : Nat) : Int) = 0 from rfl]
                    clear ct
                    have ks := K.s0
                    have KS := Lib.hid ks
                    clear ks K
                    have o0 := M.o.c0
                    have o1 := M.o.c1
                    have o2 := M.o.c2
                    have o3 := M.o.c3
                    have of := M.o.f
                    have q0 := M.l.c0
                    have q1 := M.l.c1
                    go_wp2
                    go_quiet ((go_at_call 89; exact Calls.quiet_of_same (low_any _ _ k0 k1)))
                    go_wp2_with fail
                    refine (low_any _ _ (by omega) (by omega)).mono ?_
                    rintro e w1 ⟨rfl, rfl⟩
                    go_wp2
                    go_roundw
                    case rel => exact ⟨1, _, _, _, _, _, by go_num, rfl, KS.out, (M.drewN _).put _ _ ((M.drewN _).o.set0 _)⟩
                    case measure => simp [intOf]
                  · obtain rfl : tt = 1 := h
                    rw [show ((1 : Nat) : Int) = 1 from rfl]
                    clear ct
                    have ks := K.s1
                    have KS := Lib.hid ks
                    clear ks K
                    have o0 := M.o.c0
                    have o1 := M.o.c1
                    have o2 := M.o.c2
                    have o3 := M.o.c3
                    have of := M.o.f
                    have q0 := M.l.c0
                    have q1 := M.l.c1
                    go_wp2
                    go_quiet ((go_at_call 89; exact Calls.quiet_of_same (low_any _ _ k0 k1)))
                    go_wp2_with fail
                    refine (low_any _ _ (by omega) (by omega)).mono ?_
                    rintro e w1 ⟨rfl, rfl⟩
                    go_wp2
                    go_roundw
                    case rel => exact ⟨2, _, _, _, _, _, by go_num, rfl, KS.out, (M.drewN _).put _ _ ((M.drewN _).o.set1 _)⟩
                    case measure => simp [intOf]
                  · obtain rfl : tt = 2 := h
                    rw [show ((2 : Nat) : Int) = 2 from rfl]
                    clear ct
                    have ks := K.s2
                    have KS := Lib.hid ks
                    clear ks K
                    have o0 := M.o.c0
                    have o1 := M.o.c1
                    have o2 := M.o.c2
                    have o3 := M.o.c3
                    have of := M.o.f
                    have q0 := M.l.c0
                    have q1 := M.l.c1
                    go_wp2
                    go_quiet ((go_at_call 89; exact Calls.quiet_of_same (low_any _ _ k0 k1)))
                    go_wp2_with fail
                    refine (low_any _ _ (by omega) (by omega)).mono ?_
                    rintro e w1 ⟨rfl, rfl⟩
                    go_wp2
                    go_roundw
                    case rel => exact ⟨3, _, _, _, _, _, by go_num, rfl, KS.out, (M.drewN _).put _ _ ((M.drewN _).o.set2 _)⟩
                    case measure => simp [intOf]
                  · obtain rfl : tt = 3 := h
                    rw [show ((3 : Nat) : Int) = 3 from rfl]
                    clear ct
                    have ks := K.s3
                    have KS := Lib.hid ks
                    clear ks K
                    have o0 := M.o.c0
                    have o1 := M.o.c1
                    have o2 := M.o.c2
                    have o3 := M.o.c3
                    have of := M.o.f
                    have q0 := M.l.c0
                    have q1 := M.l.c1
                    go_wp2
                    go_quiet ((go_at_call 89; exact Calls.quiet_of_same (low_any _ _ k0 k1)))
                    go_wp2_with fail
                    refine (low_any _ _ (by omega) (by omega)).mono ?_
                    rintro e w1 ⟨rfl, rfl⟩
                    go_wp2
                    go_roundw
                    case rel => exact ⟨4, _, _, _, _, _, by go_num, rfl, KS.out, (M.drewN _).put _ _ ((M.drewN _).o.set3 _)⟩
                    case measure => simp [intOf]
          · obtain rfl : k = 2 := by omega
            rw [show ((2 : Nat) : Int) = 2 from rfl]
            clear kk hk
            go_wp2
            go_roundw
            case rel => first | exact ⟨1 + 1, x0, x1, x2, x3, by omega, by go_num, by have := D.out; simpa [psum] using this, M⟩ | ((repeat apply Exists.intro); exact ⟨⟨1 + 1, x0, x1, x2, x3, by omega, by go_num, by have := D.out; simpa [psum] using this, M⟩, rfl⟩)
            case measure => simp [intOf]
    · obtain rfl : i = 2 := by omega
      rw [show ((2 : Nat) : Int) = 2 from rfl]
      clear ii hi
      have D2 : IsD x0 x1 x2 x3 (X * X) := by
        have := D.out
        rw [psum_all, EL.out] at this
        exact this
      obtain ⟨rfl, rfl, rfl, rfl⟩ := D2.eqs
      clear D D2
      have o0 := M.o.c0
      have o1 := M.o.c1
      have o2 := M.o.c2
      have o3 := M.o.c3
      have of := M.o.f
      have q0 := M.l.c0
      have q1 := M.l.c1
      obtain ⟨rf, ⟨v1, t1⟩, ⟨v2, t2⟩, ⟨v3, t3⟩, ⟨v4, t4⟩⟩ := M.r
      have HB1 := Lib.hid M.b
      go_wp2
      refine bodyPost_ret (v := .agg #[.int .u64 (d0 (X * X)), .int .u64 (d1 (X * X)), .int .u64 (d2 (X * X)), .int .u64 (d3 (X * X))]) ?_ rfl ⟨rfl, ?_⟩
      · simp [results, Try.results90, go_sem, t1, t2, t3, t4]
      · repeat (refine Below.setCell ?_ (by exact Nat.le_refl _) _)
        exact HB1.out
end Go.Proofs.Ytllkhgcokbpggaa
namespace Go.Proofs.Ytllkhgcokbpggaa
open Go.RowKit

theorem startN1 {B : Nat} {w W : World} {n : Nat} {b : Bool} {x : Int} (A : CellN W n b x) (g : n < W.heap.size) (z : B ≤ W.heap.size) (k : Below B w W) :
    (W.cell? ⟨n, 0, none⟩ = some (.bool (b)) ∧ W.cell? ⟨n, 1, none⟩ = some (.int .u64 (d0 (x))) ∧ W.cell? ⟨n, 2, none⟩ = some (.int .u64 (d1 (x))) ∧ W.cell? ⟨n, 3, none⟩ = some (.int .u64 (d2 (x))) ∧ W.cell? ⟨n, 4, none⟩ = some (.int .u64 (d3 (x)))) ∧ n < W.heap.size ∧ B ≤ W.heap.size ∧ Below B w W := ⟨⟨A.c0, A.c1, A.c2, A.c3, A.c4⟩, g, z, k⟩
theorem keepN1 {B : Nat} {w W W' : World} {n : Nat} {b : Bool} {x : Int} (hb : Below W.heap.size W W') (h : (W.cell? ⟨n, 0, none⟩ = some (.bool (b)) ∧ W.cell? ⟨n, 1, none⟩ = some (.int .u64 (d0 (x))) ∧ W.cell? ⟨n, 2, none⟩ = some (.int .u64 (d1 (x))) ∧ W.cell? ⟨n, 3, none⟩ = some (.int .u64 (d2 (x))) ∧ W.cell? ⟨n, 4, none⟩ = some (.int .u64 (d3 (x)))) ∧ n < W.heap.size ∧ B ≤ W.heap.size ∧ Below B w W) :
    (W'.cell? ⟨n, 0, none⟩ = some (.bool (b)) ∧ W'.cell? ⟨n, 1, none⟩ = some (.int .u64 (d0 (x))) ∧ W'.cell? ⟨n, 2, none⟩ = some (.int .u64 (d1 (x))) ∧ W'.cell? ⟨n, 3, none⟩ = some (.int .u64 (d2 (x))) ∧ W'.cell? ⟨n, 4, none⟩ = some (.int .u64 (d3 (x)))) ∧ n < W'.heap.size ∧ B ≤ W'.heap.size ∧ Below B w W' := by
  obtain ⟨⟨a0, a1, a2, a3, a4⟩, g, z, k⟩ := h
  have A : CellN W n b x := ⟨a0, a1, a2, a3, a4⟩
  have := hb.size
  exact startN1 (A.below hb g) (by omega) (by omega) (k.trans (hb.mono z))
theorem cellN_of {B : Nat} {w W : World} {n : Nat} {b : Bool} {x : Int} (h : (W.cell? ⟨n, 0, none⟩ = some (.bool (b)) ∧ W.cell? ⟨n, 1, none⟩ = some (.int .u64 (d0 (x))) ∧ W.cell? ⟨n, 2, none⟩ = some (.int .u64 (d1 (x))) ∧ W.cell? ⟨n, 3, none⟩ = some (.int .u64 (d2 (x))) ∧ W.cell? ⟨n, 4, none⟩ = some (.int .u64 (d3 (x)))) ∧ n < W.heap.size ∧ B ≤ W.heap.size ∧ Below B w W) : CellN W n b x ∧ n < W.heap.size ∧ Below B w W :=
  ⟨⟨h.1.1, h.1.2.1, h.1.2.2.1, h.1.2.2.2.1, h.1.2.2.2.2⟩, h.2.1, h.2.2.2⟩

/-- t bits are open: the root lies from n on, below n + 2^t -/
structure Open (s n : Int) (t : Nat) : Prop where
  lo : n ≤ s
  hi : s < n + 2 ^ t
  n0 : 0 ≤ n
  top : n + 2 ^ t ≤ 18446744073709551616
theorem Open.up {s n : Int} {u : Nat} (k : Open s n (u + 1)) (h : n + 2 ^ u ≤ s) : Open s (n + 2 ^ u) u := by
  obtain ⟨lo, hi, n0, top⟩ := k
  rw [Int.pow_succ] at hi top
  have : (0 : Int) < 2 ^ u := Int.pow_pos (by omega)
  exact ⟨h, by omega, by omega, by omega⟩
theorem Open.down {s n : Int} {u : Nat} (k : Open s n (u + 1)) (h : s < n + 2 ^ u) : Open s n u := by
  obtain ⟨lo, hi, n0, top⟩ := k
  rw [Int.pow_succ] at hi top
  have : (0 : Int) < 2 ^ u := Int.pow_pos (by omega)
  exact ⟨lo, h, n0, by omega⟩
theorem Open.fits {s n : Int} {u : Nat} (k : Open s n (u + 1)) : ∃ p : Int, IntKind.u64.wrap (2 ^ u) = p ∧ 1 ≤ p ∧ n + p ≤ 18446744073709551615 ∧ Hid (p = 2 ^ u) := by
  obtain ⟨lo, hi, n0, top⟩ := k
  rw [Int.pow_succ] at hi top
  have : (0 : Int) < 2 ^ u := Int.pow_pos (by omega)
  exact ⟨2 ^ u, by rw [IntKind.wrap_u64]; omega, by omega, by omega, rfl⟩

set_option maxHeartbeats 4000000 in
theorem rRoot_any (a : Int) (w : World) (ha : In128 a) :
    Calls Try.prog 65 #[.agg #[.bool (decide (a < 0)), .int .u64 (d0 (a.natAbs)), .int .u64 (d1 (a.natAbs)), .int .u64 (d2 (a.natAbs)), .int .u64 (d3 (a.natAbs))]] w fun e w' => e = .returned (.int .u64 (rootI a)) ∧ Below w.heap.size w w' := by
  have A := abs128 ha
  by_cases p : a ≤ 0
  · have K := Lib.hid (rootI_neg p)
    have t : cmpI a 0 ≤ 0 := by unfold cmpI; split <;> (try split) <;> omega
    clear p
    go_enter Try.func65, Try.ntmps65
    go_wp2_with fail
    refine (rSign_any a _ ha).mono ?_
    rintro e w1 ⟨rfl, hb1⟩
    have z_w1 := hb1.size
    try simp at z_w1
    have y_w1 : w.heap.size ≤ w1.heap.size := by omega
    go_wp2
    go_ret
    exact ⟨retI K.out.symm, by repeat (first | exact Below.refl _ _ | assumption | refine Below.setCell ?_ (by first | omega | (simp; done) | (simp; omega)) _ | refine Below.alloc ?_ (by first | omega | (simp; done) | (simp; omega)) _ | refine below_drewN ?_ _ | refine Below.drew ?_ | refine Below.trans ?_ (Below.mono (by assumption) (by first | omega | (simp; done) | (simp; omega))))⟩
  · have t : ¬ cmpI a 0 ≤ 0 := by unfold cmpI; split <;> (try split) <;> omega
    obtain ⟨s, ks⟩ := isRoot_ex (n := a) (by omega)
    have s2 := root_small ks (by unfold In128 at ha; omega)
    have KS := Lib.hid ks
    have NA := Lib.hid (show (a.natAbs : Int) = a by omega)
    have E := Lib.hid (rootI_eq ks)
    have O := Lib.hid (show Open s 0 64 from ⟨ks.s0, by omega, by omega, by omega⟩)
    clear ks p
    go_enter Try.func65, Try.ntmps65
    go_wp2_with fail
    refine (rSign_any a _ ha).mono ?_
    rintro e w1 ⟨rfl, hb1⟩
    have z1 : w.heap.size < w1.heap.size := by have := hb1.size; simp at this; omega
    have C1 : CellN w1 w.heap.size (decide (a < 0)) a.natAbs := (CellN.new w _ _ _).below hb1 (by simp)
    have B1 : Below w.heap.size w w1 := by repeat (first | exact Below.refl _ _ | assumption | refine Below.setCell ?_ (by first | omega | (simp; done) | (simp; omega)) _ | refine Below.alloc ?_ (by first | omega | (simp; done) | (simp; omega)) _ | refine below_drewN ?_ _ | refine Below.drew ?_ | refine Below.trans ?_ (Below.mono (by assumption) (by first | omega | (simp; done) | (simp; omega))))
    go_wp2
    go_loopw [3, 4] (fun v i wr => ∃ (t : Nat) (n : Int), t ≤ 64 ∧ i = .int .i64 ((t : Int) - 1) ∧ v = .int .u64 n ∧ Open s n t ∧ CellN wr w.heap.size (decide (a < 0)) a.natAbs ∧ w.heap.size < wr.heap.size ∧ Below w.heap.size w wr) (fun _ i _ => (intOf i + 1).toNat)
    case atStart => exact ⟨64, 0, by omega, by go_num, rfl, O.out, C1, z1, B1⟩
    case round =>
      clear C1 B1 z1 hb1
      obtain ⟨tt, n, ht, rfl, rfl, K, C, z, hbr⟩ := hrel
      cases tt with
      | zero =>
        have F := Lib.hid (show n = rootI a by rw [E.out]; have := K.lo; have := K.hi; simp at this; omega)
        rw [show (((0 : Nat) : Int) - 1) = -1 from rfl]
        clear K
        go_wp2
        go_ret
        exact ⟨retI F.out, hbr⟩
      | succ u =>
        obtain ⟨q, hq, q1, q2, HQ⟩ := K.fits
        have n0 := K.n0
        rw [show (((u + 1 : Nat) : Int) - 1) = u by omega]
        have Q0 : 0 ≤ (n + q) * (n + q) := Int.mul_nonneg (by omega) (by omega)
        have Q1 : (n + q) * (n + q) < 340282366920938463463374607431768211456 := by
          have := Int.mul_le_mul q2 q2 (show 0 ≤ n + q by omega) (by omega : (0 : Int) ≤ 18446744073709551615)
          omega
        have HS := Lib.hid (startN1 (B := w.heap.size) (w := w) C z (by omega) hbr)
        have HK := Lib.hid K
        clear K C
        by_cases c : a < (n + q) * (n + q)
        · have c2 : (a.natAbs : Int) < (n + q) * (n + q) := by rw [NA.out]; exact c
          have N := Lib.hid (HK.out.down (by rw [← HQ.out]; exact KS.out.lt_of (by omega) c))
          clear c
          go_wp2
          go_region_held3 (fun W => (W.cell? ⟨w.heap.size, 0, none⟩ = some (.bool (decide (a < 0))) ∧ W.cell? ⟨w.heap.size, 1, none⟩ = some (.int .u64 (d0 (a.natAbs))) ∧ W.cell? ⟨w.heap.size, 2, none⟩ = some (.int .u64 (d1 (a.natAbs))) ∧ W.cell? ⟨w.heap.size, 3, none⟩ = some (.int .u64 (d2 (a.natAbs))) ∧ W.cell? ⟨w.heap.size, 4, none⟩ = some (.int .u64 (d3 (a.natAbs)))) ∧ w.heap.size < W.heap.size ∧ w.heap.size ≤ W.heap.size ∧ Below w.heap.size w W)
            (first | exact keepN1 ((Below.refl _ _).drew) HS.out | exact keepN1 hb (by assumption))
            (first
              | (go_at_call 90; refine (square_any _ _ (by omega) (by omega)).mono ?_; rintro e w' ⟨rfl, hb⟩)
              | (go_at_call 85; refine (less_any _ _ _ A.1 A.2 Q0 Q1).mono ?_; rintro e w' ⟨rfl, hb⟩))
          go_wp2
          go_roundw
          case rel => exact ⟨u, n, by omega, by go_num, rfl, N.out, (cellN_of (B := w.heap.size) (w := w) (by assumption)).1, (cellN_of (B := w.heap.size) (w := w) (by assumption)).2.1, (cellN_of (by assumption)).2.2⟩
          case measure => simp [intOf]
        · have c2 : decide ((a.natAbs : Int) < (n + q) * (n + q)) = false := by rw [NA.out, decide_eq_false_iff_not]; exact c
          have N := Lib.hid (show Open s (n + q) u by have := HK.out.up (by rw [← HQ.out]; exact KS.out.le_of (by omega)); rwa [← HQ.out] at this)
          clear c
          go_wp2
          go_region_held3 (fun W => (W.cell? ⟨w.heap.size, 0, none⟩ = some (.bool (decide (a < 0))) ∧ W.cell? ⟨w.heap.size, 1, none⟩ = some (.int .u64 (d0 (a.natAbs))) ∧ W.cell? ⟨w.heap.size, 2, none⟩ = some (.int .u64 (d1 (a.natAbs))) ∧ W.cell? ⟨w.heap.size, 3, none⟩ = some (.int .u64 (d2 (a.natAbs))) ∧ W.cell? ⟨w.heap.size, 4, none⟩ = some (.int .u64 (d3 (a.natAbs)))) ∧ w.heap.size < W.heap.size ∧ w.heap.size ≤ W.heap.size ∧ Below w.heap.size w W)
            (first | exact keepN1 ((Below.refl _ _).drew) HS.out | exact keepN1 hb (by assumption))
            (first
              | (go_at_call 90; refine (square_any _ _ (by omega) (by omega)).mono ?_; rintro e w' ⟨rfl, hb⟩)
              | (go_at_call 85; refine (less_any _ _ _ A.1 A.2 Q0 Q1).mono ?_; rintro e w' ⟨rfl, hb⟩))
          go_wp2
          go_roundw
          case rel => exact ⟨u, n + q, by omega, by go_num, rfl, N.out, (cellN_of (B := w.heap.size) (w := w) (by assumption)).1, (cellN_of (B := w.heap.size) (w := w) (by assumption)).2.1, (cellN_of (by assumption)).2.2⟩
          case measure => simp [intOf]
end Go.Proofs.Ytllkhgcokbpggaa
namespace Go.Proofs.Ytllkhgcokbpggaa
open Go.RowKit

theorem CellN.far {w : World} {n m : Nat} {b : Bool} {x : Int} (k : CellN w n b x) (hn : m ≠ n) (i : Nat) (v : Value) : CellN (w.setCell ⟨m, i, none⟩ v) n b x :=
  ⟨(World.cell?_setCell_other _ _ _ _ (addr_b hn)).trans k.c0, (World.cell?_setCell_other _ _ _ _ (addr_b hn)).trans k.c1, (World.cell?_setCell_other _ _ _ _ (addr_b hn)).trans k.c2, (World.cell?_setCell_other _ _ _ _ (addr_b hn)).trans k.c3, (World.cell?_setCell_other _ _ _ _ (addr_b hn)).trans k.c4⟩
theorem CellN.far4 {w : World} {n m : Nat} {b : Bool} {x : Int} (k : CellN w n b x) (hn : m ≠ n) (u0 u1 u2 u3 : Value) : CellN ((((w.setCell ⟨m, 0, none⟩ u0).setCell ⟨m, 1, none⟩ u1).setCell ⟨m, 2, none⟩ u2).setCell ⟨m, 3, none⟩ u3) n b x :=
  (((k.far hn 0 u0).far hn 1 u1).far hn 2 u2).far hn 3 u3
theorem below_4 {B : Nat} {w w' : World} {m : Nat} (h : Below B w w') (hm : B ≤ m) (u0 u1 u2 u3 : Value) : Below B w ((((w'.setCell ⟨m, 0, none⟩ u0).setCell ⟨m, 1, none⟩ u1).setCell ⟨m, 2, none⟩ u2).setCell ⟨m, 3, none⟩ u3) :=
  (((h.setCell hm u0).setCell hm u1).setCell hm u2).setCell hm u3

end Go.Proofs.Ytllkhgcokbpggaa
